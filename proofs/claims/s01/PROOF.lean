import PyProof.Rows.All
import Wide.All
import OpenK.AllK
import Wide.FinOn
import PyProof.EqAt
import PyProof.EqKinds
import PyProof.TupleCall
import KE.BitLaws
import Open.SpecLaws
import KE.OsHead
import KE.OsGo
import KE.KSortTupG
import KE.KSortTupUse
import PyProof.Draws
import KE.KMinKey
import PySem.Challenge.RW_newstree_s01_answers
section
set_option Elab.async false
set_option linter.all false
set_option maxRecDepth 100000
/-! THE HAND LAYER, for ints, bools, texts, own classes, lists, tuples, dicts, comprehensions, walks over dicts, enumerate, zip, reversed, texts, calls, loops. Paste it whole ahead of your own text; what your proof does not reach may be deleted. -/
namespace L2
open PySem PySem.Spec PyProof.Rows
/-- a key: an int or a str -/
abbrev Key := Sum Int Str
def keyIs : Key → Value → Bool
  | .inl k, v => Value.isInt k v
  | .inr x, v => Value.isStrOf x v
def keyH (w : World) : Key → Int
  | .inl k => hashInt k
  | .inr x => hashStr w x
theorem keyIs_shape : ∀ {k : Key} {v : Value}, keyIs k v = true → (∃ i t, k = Sum.inl i ∧ v = Value.int i t) ∨ (∃ x t, k = Sum.inr x ∧ v = Value.str x t)
  | .inl i, v, h => by
    obtain ⟨t, e⟩ := Value.isInt_shape (k := i) (v := v) h
    exact .inl ⟨i, t, rfl, e⟩
  | .inr x, v, h => by
    obtain ⟨t, e⟩ := Value.isStrOf_shape (x := x) (v := v) h
    exact .inr ⟨x, t, rfl, e⟩
theorem key_ll (a b : Int) : decide ((Sum.inl a : Key) = Sum.inl b) = (a == b) := by
  by_cases e : a = b
  · subst e; simp
  · have h : ¬ (Sum.inl a : Key) = Sum.inl b := fun q => e (Sum.inl.inj q)
    rw [decide_eq_false h]
    exact (beq_eq_false_iff_ne.mpr e).symm
theorem key_rr (a b : Str) : decide ((Sum.inr a : Key) = Sum.inr b) = decide (a = b) := by
  by_cases e : a = b
  · subst e; simp
  · have h : ¬ (Sum.inr a : Key) = Sum.inr b := fun q => e (Sum.inr.inj q)
    rw [decide_eq_false h, decide_eq_false e]
theorem key_lr (a : Int) (b : Str) : decide ((Sum.inl a : Key) = Sum.inr b) = false := decide_eq_false (fun q => nomatch q)
theorem key_rl (a : Str) (b : Int) : decide ((Sum.inr a : Key) = Sum.inl b) = false := decide_eq_false (fun q => nomatch q)
def mixKind (prog : Program) (w : World) : PySem.KeyKind prog w Key where
  is := keyIs
  hash := keyH w
  inj := fun v a b ha hb => by
    rcases keyIs_shape ha with ⟨i, t, rfl, rfl⟩ | ⟨x, t, rfl, rfl⟩
    · rcases keyIs_shape hb with ⟨j, u, rfl, e⟩ | ⟨y, u, rfl, e⟩
      · injection e with e1 _; rw [e1]
      · exact nomatch e
    · rcases keyIs_shape hb with ⟨j, u, rfl, e⟩ | ⟨y, u, rfl, e⟩
      · exact nomatch e
      · injection e with e1 _; rw [e1]
  byValue := fun k v h => by
    rcases keyIs_shape h with ⟨i, t, rfl, rfl⟩ | ⟨x, t, rfl, rfl⟩ <;> rfl
  pyHash := fun hv h => by
    rcases keyIs_shape hv with ⟨i, t, rfl, rfl⟩ | ⟨x, t, rfl, rfl⟩
    · exact wpAny_pyHash_int h
    · exact wpAny_pyHash_str h
  eqBool := fun hu hv h => by
    rcases keyIs_shape hu with ⟨i, t, rfl, rfl⟩ | ⟨x, t, rfl, rfl⟩
    · rcases keyIs_shape hv with ⟨j, u, rfl, rfl⟩ | ⟨y, u, rfl, rfl⟩
      · rw [key_ll] at h; exact wpAny_eqBool_int h
      · rw [key_lr] at h; exact SeqAt.EqAt.int_str i t y u _ _ _ _ h
    · rcases keyIs_shape hv with ⟨j, u, rfl, rfl⟩ | ⟨y, u, rfl, rfl⟩
      · rw [key_rl] at h; exact SeqAt.EqAt.str_int x t j u _ _ _ _ h
      · rw [key_rr] at h; exact wpAny_eqBool_str h
  «strs» := fun k x t v h => by
    rcases keyIs_shape h with ⟨i, u, rfl, e⟩ | ⟨y, u, rfl, e⟩
    · exact nomatch e
    · injection e with e1 _
      subst e1
      cases v <;> rfl
end L2
namespace L2
open PySem PySem.Spec PyProof.Rows
/-- a value, without the heap -/
inductive V where
  | non | bl (b : Bool) | int (i : Int) | str (x : Str) | byt (b : Array UInt8) | flt (b : UInt64) | ref (a : Addr) | ty (n : String)
  deriving DecidableEq
def RelV : V → Value → Prop
  | .non, u => u = Value.none
  | .bl b, u => u = Value.bool b
  | .int i, u => ∃ t, u = Value.int i t
  | .str x, u => ∃ t, u = Value.str x t
  | .byt b, u => ∃ t, u = Value.bytes b t
  | .flt b, u => ∃ t, u = Value.float b t
  | .ref a, u => u = Value.ref a
  | .ty n, u => u = Value.type n
abbrev Vals : List V → List Value → Prop := Paired RelV
theorem Vals.length {xs : List V} {us : List Value} (r : Vals xs us) : xs.length = us.length := Paired.length r
theorem Vals.get : ∀ {xs : List V} {us : List Value} {i : Nat} {x : V}, Vals xs us → xs[i]? = some x → ∃ u, us[i]? = some u ∧ RelV x u
  | _, _, _, _, .nil, e => by simp at e
  | _, _, 0, _, .cons r _, e => by simp at e; subst e; exact ⟨_, rfl, r⟩
  | _, _, i + 1, x, .cons _ t, e => by
    obtain ⟨u, h1, h2⟩ := Vals.get (i := i) (x := x) t (by simpa using e)
    exact ⟨u, by simpa using h1, h2⟩
theorem Vals.set {x : V} {u : Value} (r : RelV x u) : ∀ {xs : List V} {us : List Value} (i : Nat), Vals xs us → Vals (xs.set i x) (us.set i u)
  | _, _, _, .nil => .nil
  | _, _, 0, .cons _ t => .cons r t
  | _, _, i + 1, .cons q t => .cons q (Vals.set r i t)
theorem Vals.append : ∀ {xs ys : List V} {us ws : List Value}, Vals xs us → Vals ys ws → Vals (xs ++ ys) (us ++ ws)
  | _, _, _, _, .nil, s => s
  | _, _, _, _, .cons r t, s => .cons r (Vals.append t s)
theorem Vals.take : ∀ {xs : List V} {us : List Value} (n : Nat), Vals xs us → Vals (xs.take n) (us.take n)
  | _, _, 0, _ => .nil
  | _, _, _ + 1, .nil => .nil
  | _, _, n + 1, .cons r t => .cons r (Vals.take n t)
theorem Vals.drop : ∀ {xs : List V} {us : List Value} (n : Nat), Vals xs us → Vals (xs.drop n) (us.drop n)
  | _, _, 0, r => r
  | _, _, _ + 1, .nil => .nil
  | _, _, n + 1, .cons _ t => Vals.drop n t
def RelO : Option V → Option Value → Prop
  | some v, some u => RelV v u
  | none, none => True
  | _, _ => False
def KV {κ : Type} : List (κ × V) → List (κ × Value) → Prop := Paired fun (p : κ × V) (q : κ × Value) => p.1 = q.1 ∧ RelV p.2 q.2
/-- a key of a dict (00_mix): an int or a text -/
def kV : Key → V
  | .inl i => .int i
  | .inr x => .str x
/-- what stands at a tracked address -/
inductive HO where
  /-- a list -/
  | lst (xs : List V)
  /-- a tuple (never changes) -/
  | tup (xs : List V)
  /-- a dict whose keys are ints and texts; one whose keys are tuples of ints and texts (the empty one is both) -/
  | dK (kvs : List (Key × V)) | dT (kvs : List (List Key × V))
  /-- a set of ints: its members, its size -/
  | set (S : Int → Bool) (n : Nat)
  /-- an instance of the class at C, its dict at dx, its attributes -/
  | ins (C dx : Addr) (fs : List (Str × V))
  /-- the dict of the instance at x -/
  | own (x : Addr)
  /-- the dict of an exception -/
  | xd (fs : List (Str × V))
  /-- a bound method, f of x -/
  | met (f x : Addr)
  /-- a range object lo, lo + 1, .. below hi -/
  | rng (lo hi : Int)
  /-- a thing that is known to the object (the script; a dict while a loop walks it): read, never written while it is so -/
  | frz (o : Obj) (u : HO)
  /-- a code object's table -/
  | tbl (ps : Array Value)
  /-- any other thing, by what is true of its one object (a def of one's own: SetO a S n := HO.ext fun h => ..) -/
  | ext (φ : Heap → Prop)
abbrev Hp := Addr → Option HO
def upd (H : Hp) (a : Addr) (o : HO) : Hp := fun b => if b = a then some o else H b
theorem upd_same {H : Hp} {a : Addr} {o : HO} : upd H a o a = some o := by unfold upd; rw [if_pos rfl]
theorem upd_ne {H : Hp} {a b : Addr} {o : HO} (h : b ≠ a) : upd H a o b = H b := by unfold upd; rw [if_neg h]
/-- two objects of different content stand apart -/
theorem ne_of {H : Hp} {a b : Addr} {o u : HO} (h : H a = some o) (h' : H b = some u) (d : o ≠ u) : a ≠ b := by
  intro e; subst e; rw [h] at h'; exact d (Option.some.inj h')
theorem ne_of_none {H : Hp} {a b : Addr} {o : HO} (h : H a = some o) (h' : H b = none) : a ≠ b := by
  intro e; subst e; rw [h] at h'; cases h'
section
variable (P : Program) (w : World)
def ObjOk (H : Hp) (h : Heap) (a : Addr) : HO → Prop
  | .lst xs => xs.length ≤ sizeLine ∧ ∃ (its : List Value) (n : Nat), Vals xs its ∧ h.get? a = some { cls := .type "list", data := .seq its.toArray n }
  | .tup xs => xs.length ≤ sizeLine ∧ ∃ its : List Value, Vals xs its ∧ IsTup h a its.toArray
  | .dK kvs => kvs.length ≤ sizeLine ∧ (a == sysModules) = false ∧ ∃ vs, KV kvs vs ∧ h.DictOf (mixKind P w) a vs
  | .dT kvs => kvs.length ≤ sizeLine ∧ (a == sysModules) = false ∧ ∃ xs : List (List Key × Addr × Value),
      Paired (fun (p : List Key × V) (q : List Key × Addr × Value) => p.1 = q.1 ∧ H q.2.1 = some (.tup (p.1.map kV)) ∧ RelV p.2 q.2.2) kvs xs ∧
      ∃ o es ep, h.get? a = some o ∧ o.ExactDict ∧ o.data = .dict es ep ∧ es.toList = xs.map (entryOfKey (tupleKind (mixKind P w))) ∧ (xs.map (·.1)).Nodup
  | .set S n => h.SetOf (intKind P w) a S n
  | .ins C dx fs => H dx = some (.own a) ∧ fs.length ≤ 1000 ∧ dx ≠ a ∧ h.get? a = some (PySem.W.instObj C dx) ∧
      ∃ mA, h.Ns1 dx mA ∧ (∀ f, RelO (fs.lookup f) (mA f)) ∧ PySem.Within mA (fs.map (·.1))
  | .own _ => ∃ o, h.get? a = some o
  | .xd fs => ∃ mA, h.Ns1 a mA ∧ ∀ f, RelO (fs.lookup f) (mA f)
  | .rng lo hi => ∃ t u v, h.get? a = some { cls := .type "range", data := .fields #[.int lo t, .int hi u, .int 1 v] }
  | .frz o u => h.get? a = some o ∧ ObjOk H h a u
  | .tbl ps => h.get? a = some { cls := .none, data := .fields ps }
  | .met f x => h.get? a = some (PySem.W.methodObj (.ref f) (.ref x))
  | .ext φ => φ h ∧ (∃ o, h.get? a = some o) ∧ ∀ h1 h2 : Heap, φ h1 → (∀ o, h1.get? a = some o → h2.get? a = some o) → φ h2
/-- the abstract heap is held -/
def HOk (H : Hp) (h : Heap) : Prop := ∀ a o, H a = some o → ObjOk P w H h a o
end
section
variable {P : Program} {w : World} {H H' : Hp} {h h' : Heap} {a : Addr} {o : HO}
theorem ObjOk.lt (x : ObjOk P w H h a o) : a < h.objs.size := by
  cases o with
  | lst xs => obtain ⟨_, _, _, _, e⟩ := x; exact Heap.lt_size e
  | tup xs => obtain ⟨_, _, _, p⟩ := x; exact p.lt
  | dK kvs => obtain ⟨_, _, _, _, o, _, _, e, _⟩ := x; exact Heap.lt_size e
  | dT kvs => obtain ⟨_, _, _, _, o, _, _, e, _⟩ := x; exact Heap.lt_size e
  | set S n => obtain ⟨o, _, _, _, e, _⟩ := x; exact Heap.lt_size e
  | ins C dx fs => obtain ⟨_, _, _, e, _⟩ := x; exact Heap.lt_size e
  | own y => obtain ⟨_, e⟩ := x; exact Heap.lt_size e
  | xd fs => obtain ⟨_, ⟨_, _, _, e, _⟩, _⟩ := x; exact Heap.lt_size e
  | rng lo hi => obtain ⟨_, _, _, e⟩ := x; exact Heap.lt_size e
  | frz ob u => obtain ⟨e, _⟩ := x; exact Heap.lt_size e
  | tbl ps => exact Heap.lt_size (show h.get? a = some _ from x)
  | met f y => exact Heap.lt_size (show h.get? a = some _ from x)
  | ext φ => obtain ⟨_, ⟨_, e⟩, _⟩ := x; exact Heap.lt_size e
theorem Paired.mapP {α β : Type} {F G : α → β → Prop} : ∀ {l₁ : List α} {l₂ : List β}, Paired F l₁ l₂ → (∀ a b, F a b → G a b) → Paired G l₁ l₂
  | _, _, .nil, _ => .nil
  | _, _, .cons r t, f => .cons (f _ _ r) (Paired.mapP t f)
/-- what an object's description leans on: its own object, its own dict, the tuples -/
theorem ObjOk.stay (x : ObjOk P w H h a o) (k : ∀ b u, (b = a ∨ H b = some (.own a)) → h.get? b = some u → h'.get? b = some u)
    (ho : ∀ b, H b = some (.own a) → H' b = some (.own a)) (ht : ∀ b xs, H b = some (.tup xs) → H' b = some (.tup xs)) : ObjOk P w H' h' a o := by
  induction o with
  | lst xs => obtain ⟨z, its, n, r, e⟩ := x; exact ⟨z, its, n, r, k _ _ (.inl rfl) e⟩
  | tup xs => obtain ⟨z, its, r, ob, e, c⟩ := x; exact ⟨z, its, r, ob, k _ _ (.inl rfl) e, c⟩
  | dK kvs => obtain ⟨z, y, vs, r, ob, es, ep, e, c⟩ := x; exact ⟨z, y, vs, r, ob, es, ep, k _ _ (.inl rfl) e, c⟩
  | dT kvs =>
    obtain ⟨z, y, xs, r, ob, es, ep, e, c⟩ := x
    exact ⟨z, y, xs, Paired.mapP r fun p q z => ⟨z.1, ht _ _ z.2.1, z.2.2⟩, ob, es, ep, k _ _ (.inl rfl) e, c⟩
  | set S n => obtain ⟨ob, es, ep, t, e, c⟩ := x; exact ⟨ob, es, ep, t, k _ _ (.inl rfl) e, c⟩
  | ins C dx fs =>
    obtain ⟨d, z, ne, e, mA, ⟨od, es, ep, e2, c⟩, r⟩ := x
    exact ⟨ho _ d, z, ne, k _ _ (.inl rfl) e, mA, ⟨od, es, ep, k _ _ (.inr d) e2, c⟩, r⟩
  | own y => obtain ⟨ob, e⟩ := x; exact ⟨ob, k _ _ (.inl rfl) e⟩
  | xd fs => obtain ⟨mA, ⟨od, es, ep, e, c⟩, r⟩ := x; exact ⟨mA, ⟨od, es, ep, k _ _ (.inl rfl) e, c⟩, r⟩
  | rng lo hi => obtain ⟨t, u, v, e⟩ := x; exact ⟨t, u, v, k _ _ (.inl rfl) e⟩
  | frz ob u ih => obtain ⟨e, q⟩ := x; exact ⟨k _ _ (.inl rfl) e, ih q⟩
  | tbl ps =>
    have e : h.get? a = some { cls := .none, data := .fields ps } := x
    show h'.get? a = some { cls := .none, data := .fields ps }
    exact k a _ (.inl rfl) e
  | met f y =>
    have e : h.get? a = some (PySem.W.methodObj (.ref f) (.ref y)) := x
    show h'.get? a = some (PySem.W.methodObj (.ref f) (.ref y))
    exact k a _ (.inl rfl) e
  | ext φ => obtain ⟨p, ⟨o, e⟩, st⟩ := x; exact ⟨st _ _ p fun o q => k _ _ (.inl rfl) q, ⟨o, k _ _ (.inl rfl) e⟩, st⟩
theorem HOk.lt (x : HOk P w H h) (e : H a = some o) : a < h.objs.size := (x a o e).lt
theorem HOk.fresh (x : HOk P w H h) (e : h.objs.size ≤ a) : H a = none := by
  cases q : H a with
  | none => rfl
  | some u => exact absurd (Nat.lt_of_lt_of_le (x.lt q) e) (Nat.lt_irrefl _)
/-- every object of the heap is kept -/
theorem HOk.kept (x : HOk P w H h) (k : ∀ b u, h.get? b = some u → h'.get? b = some u) : HOk P w H h' := fun a o e =>
  (x a o e).stay (fun b u _ q => k b u q) (fun _ q => q) fun _ _ q => q
/-- a new object is laid and tracked -/
theorem HOk.laid (x : HOk P w H h) (k : ∀ b u, h.get? b = some u → h'.get? b = some u) (hp : h.objs.size ≤ a) (new : ObjOk P w (upd H a o) h' a o) : HOk P w (upd H a o) h' := fun b u e => by
  have hn := x.fresh hp
  by_cases hb : b = a
  · subst hb; rw [upd_same] at e; cases e; exact new
  · rw [upd_ne hb] at e
    exact (x b u e).stay (fun c v _ q => k c v q) (fun c q => by rw [upd_ne (ne_of_none q hn)]; exact q) fun c xs q => by rw [upd_ne (ne_of_none q hn)]; exact q
end
/-- what may be read as u: it is u, or a known u -/
def Rd (H : Hp) (a : Addr) (u : HO) : Prop := H a = some u ∨ ∃ o, H a = some (.frz o u)
theorem Rd.ok {P : Program} {w : World} {H : Hp} {h : Heap} {a : Addr} {u : HO} (r : Rd H a u) (x : HOk P w H h) : ObjOk P w H h a u := by
  rcases r with r | ⟨o, r⟩
  · exact x a u r
  · obtain ⟨_, q⟩ := x a _ r
    exact q
/-- what may be written -/
def Mut : Option HO → Prop
  | some (.lst _) => True
  | some (.dK _) => True
  | some (.dT _) => True
  | some (.set _ _) => True
  | some (.ins _ _ _) => True
  | some (.ext _) => True
  | _ => False
section
variable {P : Program} {w : World} {H : Hp} {h h' : Heap} {x e : Addr} {o' : HO}
/-- the object at e is changed: x itself, or the dict of the instance x -/
theorem HOk.write (ok : HOk P w H h) (mu : Mut (H x)) (he : e = x ∨ H e = some (.own x)) (k : ∀ b u, b ≠ e → h.get? b = some u → h'.get? b = some u) (heo : ∃ u, h'.get? e = some u)
    (new : ObjOk P w (upd H x o') h' x o') : HOk P w (upd H x o') h' := fun b u q => by
  have nown : ∀ c y, H c = some (.own y) → c ≠ x := fun c y r z => by subst z; rw [r] at mu; exact mu
  have ntup : ∀ c xs, H c = some (.tup xs) → c ≠ x := fun c xs r z => by subst z; rw [r] at mu; exact mu
  by_cases hb : b = x
  · subst hb; rw [upd_same] at q; cases q; exact new
  · rw [upd_ne hb] at q
    by_cases hbe : b = e
    · have q' : H b = some (.own x) := by
        rcases he with z | z
        · exact absurd (hbe.trans z) hb
        · rw [hbe]; exact z
      rw [q] at q'; cases q'
      obtain ⟨v, hv⟩ := heo
      exact ⟨v, by rw [hbe]; exact hv⟩
    · refine (ok b u q).stay (fun c v hc r => k c v ?_ r) (fun c r => by rw [upd_ne (nown c b r)]; exact r) fun c xs r => by rw [upd_ne (ntup c xs r)]; exact r
      rcases hc with rfl | hc
      · exact hbe
      · rintro rfl
        rcases he with z | z
        · exact nown c b hc z
        · rw [hc] at z; cases z; exact hb rfl
end
/-! ### kept unless tracked; of the frames at fs (the callers') the slots may change (an exception that passes writes there); of the records at ex (iterators) nothing is said -/
structure Un (fs ex : List Addr) (H H' : Hp) (h h' : Heap) : Prop where
  keep : ∀ b o, h.get? b = some o → H b = none → b ∉ fs → b ∉ ex → h'.get? b = some o
  slot : ∀ b o, h.get? b = some o → H b = none → b ∈ fs → b ∉ ex → ∃ sl, h'.get? b = some { o with slots := sl }
  free : ∀ b o, h.get? b = some o → H b = none → b ∉ ex → H' b = none
  there : ∀ b o, h.get? b = some o → b ∉ ex → ∃ o', h'.get? b = some o'
  tups : ∀ b xs, H b = some (.tup xs) → H' b = some (.tup xs)
  frzs : ∀ b o u, H b = some (.frz o u) → H' b = some (.frz o u)
  tbls : ∀ b ps, H b = some (.tbl ps) → ∃ more, H' b = some (.tbl (ps ++ more))
section
variable {fs fs' ex ex' : List Addr} {H H1 H2 : Hp} {h h1 h2 h' : Heap} {a x e : Addr} {o : HO}
theorem Un.any (u : Un fs ex H H1 h h1) {b : Addr} {ob : Obj} (q : h.get? b = some ob) (n : H b = none) (hx : b ∉ ex) : ∃ sl, h1.get? b = some { ob with slots := sl } := by
  by_cases hb : b ∈ fs
  · exact u.slot b ob q n hb hx
  · exact ⟨ob.slots, u.keep b ob q n hb hx⟩
theorem Un.kept (k : ∀ b u, h.get? b = some u → h'.get? b = some u) : Un fs ex H H h h' :=
  ⟨fun b ob q _ _ _ => k b ob q, fun b ob q _ _ _ => ⟨ob.slots, k b ob q⟩, fun _ _ _ n _ => n, fun b ob q _ => ⟨ob, k b ob q⟩, fun _ _ q => q, fun _ _ _ q => q, fun _ ps q => ⟨#[], by rw [q]; simp⟩⟩
theorem Un.refl : Un fs ex H H h h := Un.kept fun _ _ q => q
theorem Un.laid (k : ∀ b u, h.get? b = some u → h'.get? b = some u) (hp : h.objs.size ≤ a) (hn : H a = none) : Un fs ex H (upd H a o) h h' where
  keep := fun b u q _ _ _ => k b u q
  slot := fun b u q _ _ _ => ⟨u.slots, k b u q⟩
  free := fun b u q n _ => by rw [upd_ne (Nat.ne_of_lt (Nat.lt_of_lt_of_le (Heap.lt_size q) hp))]; exact n
  there := fun b u q _ => ⟨u, k b u q⟩
  tups := fun b xs q => by rw [upd_ne (ne_of_none q hn)]; exact q
  frzs := fun b u xs q => by rw [upd_ne (ne_of_none q hn)]; exact q
  tbls := fun b ps q => ⟨#[], by rw [upd_ne (ne_of_none q hn), q]; simp⟩
theorem Un.write (mu : Mut (H x)) (he : e = x ∨ H e = some (.own x)) (k : ∀ b u, b ≠ e → h.get? b = some u → h'.get? b = some u) (heo : ∃ u, h'.get? e = some u) : Un fs ex H (upd H x o) h h' := by
  have hx : ∀ b, H b = none → b ≠ x := fun b n z => by subst z; rw [n] at mu; exact mu
  have hb : ∀ b, H b = none → b ≠ e := fun b n z => by
    subst z
    rcases he with r | r
    · exact hx b n r
    · rw [n] at r; cases r
  have hm : ∀ b u, H b = some u → ¬ Mut (some u) → b ≠ x := fun b u q nm z => by subst z; rw [q] at mu; exact nm mu
  refine ⟨fun b u q n _ _ => k b u (hb b n) q, fun b u q n _ _ => ⟨u.slots, k b u (hb b n) q⟩, fun b u q n _ => by rw [upd_ne (hx b n)]; exact n, fun b u q _ => ?_,
    fun b xs q => by rw [upd_ne (hm b _ q fun z => z)]; exact q, fun b u xs q => by rw [upd_ne (hm b _ q fun z => z)]; exact q, fun b ps q => ⟨#[], by rw [upd_ne (hm b _ q fun z => z), q]; simp⟩⟩
  by_cases hbe : b = e
  · subst hbe; exact heo
  · exact ⟨u, k b u hbe q⟩
end
/-! ### the heap without what is tracked -/
def trk (h : Heap) (H : Hp) : List Addr := (List.range h.objs.size).filter fun a => (H a).isSome
def hidT (h : Heap) (H : Hp) : Heap := PySem.W.hideAll h (trk h H)
theorem hidT_size (h : Heap) (H : Hp) : (hidT h H).objs.size = h.objs.size := PySem.W.hideAll_size _ _
theorem hidT_get {h : Heap} {H : Hp} {b : Addr} {o : Obj} (e : h.get? b = some o) (n : H b = none) : (hidT h H).get? b = some o :=
  PySem.W.hideAll_get _ e fun hm => by
    have q : (H b).isSome = true := (List.mem_filter.mp hm).2
    rw [n] at q; simp at q
theorem of_hidT {h : Heap} {H : Hp} {b : Addr} {o : Obj} (e : (hidT h H).get? b = some o) : h.get? b = some o ∧ H b = none := by
  have e' : h.get? b = some o := PySem.W.of_hideAll (trk h H) e
  refine ⟨e', ?_⟩
  cases q : H b with
  | none => rfl
  | some x =>
    have hm : b ∈ trk h H := List.mem_filter.mpr ⟨List.mem_range.mpr (Heap.lt_size e'), by simp [q]⟩
    have z : (hidT h H).get? b = none := PySem.W.hideAll_none (trk h H) hm
    rw [z] at e; cases e
/-! ### OpenK's ledger, filled with every new object but one -/
end L2
namespace L2
open PySem PySem.Spec PyProof.Rows
/-- the module's facts, over the base: the heap at the law's entry without what is tracked there -/
structure Mod (K : PySem.W.Frag) (mg : Str → Option Value) (base : Heap) : Prop where
  kin : K.In base
  glob : base.Ns mainGlobals mg
  blt : ∃ mb, base.Ns builtinsNs mb ∧ ∀ x : Str, x ≠ "__name__" → mb x = bootBuiltins x
  nolimit : base.NoLimit
/-- the context: a def's body (or a comprehension's block) running. base: fixed through the whole law; s₀, H₀: the entry; outer: the frames whose slots others may change (a def's callers); stack: all frames that run;
   ex: iterators that were made ahead of the entry and are walked here (a comprehension's); fn: the names whose cells were made at the entry (a def: all; a comprehension's block: its own); calm: not within an except suite; pn: pins that every state bears; xe: what is wanted of an exception that leaves the code -/
structure Cx where
  prog : Program
  w : World
  K : PySem.W.Frag
  mg : Str → Option Value
  base : Heap
  A : Around
  N : List Str
  s_0 : Shared
  H_0 : Hp
  env : Env
  outer : List Env
  stack : List Env
  ex : List Addr
  fn : Str → Bool
  calm : Bool
  pn : List (Addr × Obj)
  xe : Value → Shared → Prop
/-- the callers' frames -/
def frs (l : List Env) : List Addr := l.filterMap (·.frame)
abbrev Cx.fs (X : Cx) : List Addr := frs X.outer
def Vis (sc : Scope) (x : Str) : Prop := sc.names.lookup x = some .local ∨ sc.names.lookup x = some .cell ∨ sc.names.lookup x = some .free
def Loc (sc : Scope) (x : Str) : Prop := sc.names.lookup x = some .local ∨ sc.names.lookup x = some .cell
def Look (env : Env) (h : Heap) (m : Str → Option Value) (x : Str) (u : Value) : Prop :=
  (env.kindOf x = some .local ∧ m x = some u) ∨ ((env.kindOf x = some .cell ∨ env.kindOf x = some .free) ∧ ∃ c, env.cells.lookup x = some c ∧ h.IsCell c (some u))
structure Cx.Ok (X : Cx) : Prop where
  mod : Mod X.K X.mg X.base
  kind : X.env.scope.kind = .function
  glob : X.env.globals = mainGlobals
  blt : X.env.builtins = builtinsNs
  above : X.s_0.heap.objs.size ≤ X.env.locals
  inj : ∀ x y c, X.env.cells.lookup x = some c → X.env.cells.lookup y = some c → x = y
  has : ∀ x, (X.env.kindOf x = some .cell ∨ X.env.kindOf x = some .free) → ∃ c, X.env.cells.lookup x = some c
  cab : ∀ x c, X.fn x = true → X.env.cells.lookup x = some c → X.s_0.heap.objs.size ≤ c
  hd : X.calm = true → X.A.handled = none
  frames : X.A.frames = some X.stack
  stk : X.stack = X.outer ∨ (X.stack = X.env :: X.outer ∧ X.env.frame = some X.env.locals)
  exf : ∀ b ∈ X.ex, b ≠ X.env.locals ∧ ∀ x c, X.env.cells.lookup x = some c → c ≠ b
  bs : ∀ b o, X.base.get? b = some o → X.s_0.heap.get? b = some o ∧ X.H_0 b = none
  bsz : X.base.objs.size ≤ X.s_0.heap.objs.size
  noex : ∀ b o, X.base.get? b = some o → b ∉ X.ex
  exfs : ∀ b ∈ X.ex, b ∉ X.fs
  funs : X.s_0.heap.FunFrames X.base X.outer
  frf : ∀ b ∈ X.fs, X.H_0 b = none
structure Inv (X : Cx) (pins : List (Addr × Obj)) (σ : List (Option V)) (H : Hp) (s : Shared) : Prop where
  ok : X.Ok
  os : s.os = X.s_0.os
  bare : AllBare s.gens
  base : Un X.fs X.ex X.H_0 H X.s_0.heap s.heap
  loc : ∃ m, s.heap.Ns X.env.locals m ∧ ∀ (i : Nat) (x : Str) (v : V), X.N[i]? = some x → σ[i]? = some (some v) → Vis X.env.scope x → ∃ u, RelV v u ∧ Look X.env s.heap m x u
  cell : ∀ x c, X.env.cells.lookup x = some c → ∃ v, s.heap.IsCell c v
  free : H X.env.locals = none
  freeC : ∀ x c, X.env.cells.lookup x = some c → H c = none
  pin : ∀ p ∈ X.pn ++ pins, s.heap.get? p.1 = some p.2 ∧ H p.1 = none ∧ p.1 ≠ X.env.locals ∧ p.1 ∉ X.fs ∧ ∀ v, p.2.data ≠ .cell v
  hok : HOk X.prog X.w H s.heap
  len : σ.length = X.N.length
section
variable {X : Cx} {pins : List (Addr × Obj)} {σ : List (Option V)} {H H' : Hp} {s : Shared} {h' : Heap}
theorem Cx.Ok.nofr (ok : X.Ok) {b : Addr} {o : Obj} (e : X.base.get? b = some o) : b ∉ X.fs := fun hb => by
  have := (ok.funs.mem hb).1
  rw [e] at this; cases this
theorem Inv.bs (I : Inv X pins σ H s) : ∀ b o, X.base.get? b = some o → s.heap.get? b = some o ∧ H b = none := fun b o e =>
  ⟨I.base.keep b o (I.ok.bs b o e).1 (I.ok.bs b o e).2 (I.ok.nofr e) (I.ok.noex b o e), I.base.free b o (I.ok.bs b o e).1 (I.ok.bs b o e).2 (I.ok.noex b o e)⟩
theorem Inv.bk (I : Inv X pins σ H s) : ∀ b o, X.base.get? b = some o → s.heap.get? b = some o := fun b o e => (I.bs b o e).1
theorem Inv.mod (I : Inv X pins σ H s) : Mod X.K X.mg X.base := I.ok.mod
theorem Inv.kIn (I : Inv X pins σ H s) : X.K.In s.heap := I.ok.mod.kin.keeps I.bk
theorem Inv.lt (I : Inv X pins σ H s) : X.env.locals < s.heap.objs.size := let ⟨_, hn, _⟩ := I.loc; hn.lt
theorem Inv.sz (I : Inv X pins σ H s) : X.s_0.heap.objs.size ≤ s.heap.objs.size := Nat.le_trans I.ok.above (Nat.le_of_lt I.lt)
theorem Inv.nofs (I : Inv X pins σ H s) {a : Addr} (h : s.heap.objs.size ≤ a) : a ∉ X.fs := fun hb => by
  obtain ⟨_, o, ho, _⟩ := I.ok.funs.mem hb
  exact absurd (Nat.lt_of_lt_of_le (Heap.lt_size ho) (Nat.le_trans I.sz h)) (Nat.lt_irrefl _)
theorem Inv.cne (I : Inv X pins σ H s) : ∀ x c, X.env.cells.lookup x = some c → c ≠ X.env.locals := fun x c e z => by
  obtain ⟨v, o, ho, hd⟩ := I.cell x c e
  obtain ⟨m, ⟨o', es, ep, ho', hd', _⟩, _⟩ := I.loc
  rw [z, ho'] at ho; cases ho; rw [hd'] at hd; cases hd
theorem Inv.funs (I : Inv X pins σ H s) : s.heap.FunFrames X.base X.outer := by
  have all : ∀ (l : List Env), (∀ b ∈ frs l, b ∈ X.fs) → X.s_0.heap.FunFrames X.base l → s.heap.FunFrames X.base l := by
    intro l
    induction l with
    | nil => intro _ _; trivial
    | cons env r ih =>
      intro hs hl
      obtain ⟨hk, ⟨L, o, hf, hn, ho, hd⟩, hr⟩ := hl
      have hL : L ∈ X.fs := hs L (by unfold frs; rw [List.filterMap_cons, hf]; exact List.mem_cons_self)
      obtain ⟨sl, e⟩ := I.base.slot L o ho (I.ok.frf L hL) hL fun z => I.ok.exfs L z hL
      exact ⟨hk, ⟨L, _, hf, hn, e, hd⟩, ih (fun b hb => hs b (by unfold frs; rw [List.filterMap_cons, hf]; exact List.mem_cons_of_mem _ hb)) hr⟩
  exact all X.outer (fun _ hb => hb) I.ok.funs
/-- the frames that run, for a call -/
theorem Inv.stack (I : Inv X pins σ H s) : s.heap.FunFrames X.base X.stack := by
  rcases I.ok.stk with e | ⟨e, hf⟩
  · rw [e]; exact I.funs
  · rw [e]
    obtain ⟨m, hn, _⟩ := I.loc
    refine .cons (by rw [I.ok.kind]; decide) hf hn ?_ I.funs
    exact Heap.get?_none_of_le (Nat.le_trans I.ok.bsz I.ok.above)
theorem Inv.stkSub (I : Inv X pins σ H s) : ∀ b ∈ frs X.stack, b ∈ X.env.locals :: X.fs := fun b hb => by
  rcases I.ok.stk with e | ⟨e, hf⟩
  · rw [e] at hb; exact List.mem_cons_of_mem _ hb
  · rw [e] at hb
    unfold frs at hb
    rw [List.filterMap_cons, hf] at hb
    exact hb
theorem Inv.stkFree (I : Inv X pins σ H s) : ∀ b ∈ frs X.stack, H b = none := fun b hb => by
  rcases List.mem_cons.mp (I.stkSub b hb) with e | hb
  · rw [e]; exact I.free
  · obtain ⟨_, o, ho, _⟩ := I.ok.funs.mem hb
    exact I.base.free b o ho (I.ok.frf b hb) fun z => I.ok.exfs b z hb
/-- THE STEP: the untracked objects but the frame and the records at ch are kept (the callers' frames up to slots), the frame's map is kept, the new abstract heap is held -/
theorem Inv.step {g' : Array GenState} {t' : Nat} {d' : Drawn} {ch : List Addr} (I : Inv X pins σ H s)
    (hch : ∀ b ∈ ch, (b ∈ X.ex ∨ X.s_0.heap.objs.size ≤ b) ∧ b ≠ X.env.locals ∧ (∀ x c, X.env.cells.lookup x = some c → c ≠ b) ∧ ∀ p ∈ X.pn ++ pins, p.1 ≠ b)
    (keep : ∀ b o, b ≠ X.env.locals → b ∉ X.fs → b ∉ ch → s.heap.get? b = some o → H b = none → h'.get? b = some o)
    (slot : ∀ b o, b ≠ X.env.locals → b ∈ X.fs → b ∉ ch → s.heap.get? b = some o → H b = none → ∃ sl, h'.get? b = some { o with slots := sl }) (free : ∀ b o, b ∉ ch → s.heap.get? b = some o → H b = none → H' b = none)
    (there : ∀ b o, b ∉ ch → s.heap.get? b = some o → ∃ o', h'.get? b = some o')
    (tups : ∀ b xs, H b = some (.tup xs) → H' b = some (.tup xs)) (frzs : ∀ b o u, H b = some (.frz o u) → H' b = some (.frz o u)) (tbls : ∀ b ps, H b = some (.tbl ps) → ∃ more, H' b = some (.tbl (ps ++ more)))
    (ns : ∀ m, s.heap.Ns X.env.locals m → h'.Ns X.env.locals m) (hok : HOk X.prog X.w H' h') (hg : AllBare g') :
    Inv X pins σ H' { s with heap := h', gens := g', drawn := d', toks := t' } := by
  have neL : ∀ b o, X.s_0.heap.get? b = some o → b ≠ X.env.locals := fun b o e => Nat.ne_of_lt (Nat.lt_of_lt_of_le (Heap.lt_size e) I.ok.above)
  have neC : ∀ b o, X.s_0.heap.get? b = some o → b ∉ X.ex → b ∉ ch := fun b o e hx hb => by
    rcases (hch b hb).1 with z | z
    · exact hx z
    · exact absurd (Nat.lt_of_lt_of_le (Heap.lt_size e) z) (Nat.lt_irrefl _)
  have cellK : ∀ x c, X.env.cells.lookup x = some c → ∀ v, s.heap.IsCell c v → h'.IsCell c v := fun x c e v ⟨o, ho, hd⟩ => by
    have nch : c ∉ ch := fun z => (hch c z).2.2.1 x c e rfl
    by_cases hc : c ∈ X.fs
    · obtain ⟨sl, q⟩ := slot c o (I.cne x c e) hc nch ho (I.freeC x c e)
      exact ⟨_, q, hd⟩
    · exact ⟨o, keep c o (I.cne x c e) hc nch ho (I.freeC x c e), hd⟩
  refine ⟨I.ok, I.os, hg, ⟨fun b o e n hb hx => ?_, fun b o e n hb hx => ?_, fun b o e n hx => ?_, fun b o e hx => ?_, fun b xs e => tups b xs (I.base.tups b xs e), fun b o xs e => frzs b o xs (I.base.frzs b o xs e), fun b ps e => ?_⟩, ?_, fun x c e => ?_, ?_, fun x c e => ?_, fun p hp => ?_, hok, I.len⟩
  · exact keep b o (neL b o e) hb (neC b o e hx) (I.base.keep b o e n hb hx) (I.base.free b o e n hx)
  · obtain ⟨sl, e1⟩ := I.base.slot b o e n hb hx
    obtain ⟨sl', e2⟩ := slot b _ (neL b o e) hb (neC b o e hx) e1 (I.base.free b o e n hx)
    exact ⟨sl', e2⟩
  · obtain ⟨o', e1⟩ := I.base.there b o e hx
    exact free b o' (neC b o e hx) e1 (I.base.free b o e n hx)
  · obtain ⟨o', e1⟩ := I.base.there b o e hx
    exact there b o' (neC b o e hx) e1
  · obtain ⟨m1, e1⟩ := I.base.tbls b ps e
    obtain ⟨m2, e2⟩ := tbls b _ e1
    exact ⟨m1 ++ m2, by rw [e2, Array.append_assoc]⟩
  · obtain ⟨m, hn, hl⟩ := I.loc
    refine ⟨m, ns m hn, fun i x v e1 e2 e3 => ?_⟩
    obtain ⟨u, r, l⟩ := hl i x v e1 e2 e3
    refine ⟨u, r, ?_⟩
    rcases l with l | ⟨k, c, e, z⟩
    · exact .inl l
    · exact .inr ⟨k, c, e, cellK x c e _ z⟩
  · obtain ⟨v, z⟩ := I.cell x c e
    exact ⟨v, cellK x c e v z⟩
  · obtain ⟨m, ⟨o, _, _, ho, _⟩, _⟩ := I.loc
    exact free _ o (fun z => (hch _ z).2.1 rfl) ho I.free
  · obtain ⟨v, o, ho, hd⟩ := I.cell x c e
    exact free c o (fun z => (hch c z).2.2.1 x c e rfl) ho (I.freeC x c e)
  · obtain ⟨e, n, ne, nf, d⟩ := I.pin p hp
    have nch : p.1 ∉ ch := fun z => (hch p.1 z).2.2.2 p hp rfl
    exact ⟨keep p.1 p.2 ne nf nch e n, free p.1 p.2 nch e n, ne, nf, d⟩
/-- .. where the frame's own object is kept too -/
theorem Inv.un {t' : Nat} (I : Inv X pins σ H s) (u : Un X.fs [] H H' s.heap h') (hok : HOk X.prog X.w H' h') : Inv X pins σ H' { s with heap := h', toks := t' } := by
  obtain ⟨m, ⟨o, es, ep, ho, r⟩, _⟩ := id I.loc
  obtain ⟨sl, hL⟩ := u.any ho I.free (by simp)
  exact I.step (g' := s.gens) (d' := s.drawn) (ch := []) (fun _ z => nomatch z) (fun b o _ hb _ e n => u.keep b o e n hb (by simp)) (fun b o _ hb _ e n => u.slot b o e n hb (by simp)) (fun b o _ e n => u.free b o e n (by simp)) (fun b o _ e => u.there b o e (by simp)) u.tups u.frzs u.tbls (fun m' hm => by
    obtain ⟨o', es', ep', ho', r'⟩ := hm
    rw [ho] at ho'; cases ho'
    exact ⟨_, es', ep', hL, r'⟩) hok I.bare
/-- behind a call (or a comprehension's block): the slots of this frame may have changed too, the records at ch may have turned -/
theorem Inv.call {g' : Array GenState} {t' : Nat} {d' : Drawn} {ch : List Addr} (I : Inv X pins σ H s) (u : Un (frs X.stack) ch H H' s.heap h') (hok : HOk X.prog X.w H' h') (hg : AllBare g')
    (hch : ∀ b ∈ ch, (b ∈ X.ex ∨ X.s_0.heap.objs.size ≤ b) ∧ b ≠ X.env.locals ∧ (∀ x c, X.env.cells.lookup x = some c → c ≠ b) ∧ ∀ p ∈ X.pn ++ pins, p.1 ≠ b) :
    Inv X pins σ H' { s with heap := h', gens := g', drawn := d', toks := t' } := by
  obtain ⟨m, ⟨o, es, ep, ho, r⟩, _⟩ := id I.loc
  obtain ⟨sl, hL⟩ := u.any ho I.free fun z => (hch _ z).2.1 rfl
  exact I.step (ch := ch) hch (fun b o hL hb hc e n => u.keep b o e n (fun z => (List.mem_cons.mp (I.stkSub b z)).elim hL hb) hc) (fun b o _ _ hc e n => u.any e n hc) (fun b o hc e n => u.free b o e n hc) (fun b o hc e => u.there b o e hc) u.tups u.frzs u.tbls (fun m' hm => by
    obtain ⟨o', es', ep', ho', r'⟩ := hm
    rw [ho] at ho'; cases ho'
    exact ⟨_, es', ep', hL, r'⟩) hok hg
/-- an untracked record of ours (an iterator) has turned -/
theorem Inv.turned {t' : Nat} {it : Addr} (I : Inv X pins σ H s) (k : ∀ b o, b ≠ it → s.heap.get? b = some o → h'.get? b = some o) (hn : H it = none) (hL : it ≠ X.env.locals)
    (h1 : it ∈ X.ex ∨ X.s_0.heap.objs.size ≤ it) (h2 : ∀ x c, X.env.cells.lookup x = some c → c ≠ it) (h3 : ∀ p ∈ X.pn ++ pins, p.1 ≠ it) : Inv X pins σ H { s with heap := h', toks := t' } := by
  have nit : ∀ b u, H b = some u → b ≠ it := fun b u e z => by rw [z, hn] at e; cases e
  refine I.step (g' := s.gens) (d' := s.drawn) (ch := [it]) (fun b hb => ?_) (fun b o _ _ hc e _ => k b o (fun z => hc (by simp [z])) e) (fun b o _ _ hc e _ => ⟨o.slots, k b o (fun z => hc (by simp [z])) e⟩) (fun _ _ _ _ n => n)
    (fun b o hc e => ⟨o, k b o (fun z => hc (by simp [z])) e⟩) (fun _ _ e => e) (fun _ _ _ e => e) (fun b ps e => ⟨#[], by rw [e]; simp⟩) (fun m hm => ?_) (fun b u e => ?_) I.bare
  · have e : b = it := by simpa using hb
    subst e
    exact ⟨h1, hL, h2, h3⟩
  · obtain ⟨o, es, ep, ho, r⟩ := hm
    exact ⟨o, es, ep, k _ o (Ne.symm hL) ho, r⟩
  · refine (I.hok b u e).stay (fun c v hc q => k c v ?_ q) (fun _ q => q) fun _ _ q => q
    rcases hc with z | z
    · rw [z]; exact nit b u e
    · exact nit c _ z
theorem Inv.tok (I : Inv X pins σ H s) (t : Nat) : Inv X pins σ H { s with toks := t } := I.un (h' := s.heap) (t' := t) Un.refl I.hok
/-- all objects kept -/
theorem Inv.kept {t' : Nat} (I : Inv X pins σ H s) (k : ∀ b u, s.heap.get? b = some u → h'.get? b = some u) : Inv X pins σ H { s with heap := h', toks := t' } := I.un (Un.kept k) (I.hok.kept k)
/-- a new object laid and tracked -/
theorem Inv.laid {a : Addr} {o : HO} {t' : Nat} (I : Inv X pins σ H s) (k : ∀ b u, s.heap.get? b = some u → h'.get? b = some u) (hp : s.heap.objs.size ≤ a) (new : ObjOk X.prog X.w (upd H a o) h' a o) :
    Inv X pins σ (upd H a o) { s with heap := h', toks := t' } := I.un (Un.laid k hp (I.hok.fresh hp)) (I.hok.laid k hp new)
/-- an object written -/
theorem Inv.write {x e : Addr} {o : HO} {t' : Nat} (I : Inv X pins σ H s) (mu : Mut (H x)) (he : e = x ∨ H e = some (.own x)) (k : ∀ b u, b ≠ e → s.heap.get? b = some u → h'.get? b = some u) (heo : ∃ u, h'.get? e = some u)
    (new : ObjOk X.prog X.w (upd H x o) h' x o) : Inv X pins σ (upd H x o) { s with heap := h', toks := t' } := I.un (Un.write mu he k heo) (I.hok.write mu he k heo new)
/-- forgetting slots, pins -/
theorem Inv.weak {σ' : List (Option V)} (I : Inv X pins σ H s) (hl : σ'.length = σ.length) (w : ∀ (i : Nat) v, σ'[i]? = some (some v) → σ[i]? = some (some v)) : Inv X pins σ' H s :=
  ⟨I.ok, I.os, I.bare, I.base, let ⟨m, hn, hl'⟩ := I.loc; ⟨m, hn, fun i x v e1 e2 e3 => hl' i x v e1 (w i v e2) e3⟩, I.cell, I.free, I.freeC, I.pin, I.hok, hl.trans I.len⟩
theorem Inv.pins_of {pins' : List (Addr × Obj)} (I : Inv X pins σ H s) (h : ∀ p ∈ pins', s.heap.get? p.1 = some p.2 ∧ H p.1 = none ∧ p.1 ≠ X.env.locals ∧ p.1 ∉ X.fs ∧ ∀ v, p.2.data ≠ .cell v) : Inv X pins' σ H s :=
  ⟨I.ok, I.os, I.bare, I.base, I.loc, I.cell, I.free, I.freeC, fun p hp => (List.mem_append.mp hp).elim (fun z => I.pin p (List.mem_append_left _ z)) (h p), I.hok, I.len⟩
theorem nodup_ix {N : List Str} (hN : N.Nodup) {i j : Nat} {x : Str} (a : N[i]? = some x) (b : N[j]? = some x) : i = j := by
  obtain ⟨h1, e1⟩ := List.getElem?_eq_some_iff.mp a
  obtain ⟨h2, e2⟩ := List.getElem?_eq_some_iff.mp b
  exact (List.getElem_inj hN).mp (e1.trans e2.symm)
/-- a name is stored; what changed -/
theorem store_ok2 {M : Model} {A : Around} {E : Value → Shared → Prop} {i : Nat} {x : Str} {v : V} {u : Value} {Q : Unit → Shared → Prop} (I : Inv X pins σ H s) (hN : X.N.Nodup) (hi : X.N[i]? = some x) (hx : Loc X.env.scope x) (r : RelV v u)
    (h : ∀ s', Inv X pins (σ.set i (some v)) H s' → (∃ a, Heap.SameBut a s.heap s'.heap ∧ (a = X.env.locals ∨ X.env.cells.lookup x = some a)) → Q () s') (hf : X.fn x = true ∨ X.env.scope.names.lookup x = some .local := by first | exact .inl rfl | exact .inr rfl | assumption) : wpAny M A (storeName X.env x u) Q E s := by
  obtain ⟨m, hn, hl⟩ := id I.loc
  have hcls : (X.env.scope.kind == .class || (X.env.scope.kind == .module && X.env.locals != X.env.globals)) = false := by rw [I.ok.kind]; rfl
  have hiσ : i < σ.length := by rw [I.len]; exact (List.getElem?_eq_some_iff.mp hi).1
  have cne := I.cne
  have tracked : ∀ {a : Addr} {h' : Heap}, (∃ o, s.heap.get? a = some o ∧ H a = none) → Heap.SameBut a s.heap h' → HOk X.prog X.w H h' := fun {a h'} ha hs b ob e => by
    obtain ⟨_, _, hfree⟩ := ha
    refine (I.hok b ob e).stay (fun c w' hc q => (hs.2 c ?_).trans q) (fun _ q => q) fun _ _ q => q
    rintro rfl
    rcases hc with rfl | hc
    · rw [hfree] at e; cases e
    · rw [hfree] at hc; cases hc
  rcases hx with hk | hk
  · refine wpAny_storeName_local hk hn (fun h' hn' hs => ?_) hcls
    obtain ⟨oL, _, _, hoL, _⟩ := id hn
    refine h _ ⟨I.ok, I.os, I.bare, ⟨fun b o e n hb hx => ?_, fun b o e n hb hx => ?_, I.base.free, fun b o e hx => ?_, I.base.tups, I.base.frzs, I.base.tbls⟩, ⟨_, hn', fun j y v' e1 e2 e3 => ?_⟩, fun y c e => ?_, I.free, I.freeC, fun p hp => ?_, tracked ⟨oL, hoL, I.free⟩ hs, by simpa using I.len⟩ ⟨_, hs, .inl rfl⟩
    · exact (hs.2 b (Nat.ne_of_lt (Nat.lt_of_lt_of_le (Heap.lt_size e) I.ok.above))).trans (I.base.keep b o e n hb hx)
    · obtain ⟨sl, e1⟩ := I.base.slot b o e n hb hx
      exact ⟨sl, (hs.2 b (Nat.ne_of_lt (Nat.lt_of_lt_of_le (Heap.lt_size e) I.ok.above))).trans e1⟩
    · obtain ⟨o', e1⟩ := I.base.there b o e hx
      exact ⟨o', (hs.2 b (Nat.ne_of_lt (Nat.lt_of_lt_of_le (Heap.lt_size e) I.ok.above))).trans e1⟩
    · by_cases hj : j = i
      · subst hj
        rw [hi] at e1; cases e1
        rw [List.getElem?_set_self hiσ] at e2
        cases e2
        exact ⟨u, r, .inl ⟨hk, by simp⟩⟩
      · rw [List.getElem?_set_ne (Ne.symm hj)] at e2
        obtain ⟨u', r', q⟩ := hl j y v' e1 e2 e3
        refine ⟨u', r', ?_⟩
        rcases q with ⟨k, e⟩ | ⟨k, c, e, z⟩
        · refine .inl ⟨k, ?_⟩
          have : y ≠ x := fun e => hj (nodup_ix hN e1 (e ▸ hi))
          simp [this, e]
        · exact .inr ⟨k, c, e, z.sameBut hs (cne y c e)⟩
    · obtain ⟨w', z⟩ := I.cell y c e
      exact ⟨w', z.sameBut hs (cne y c e)⟩
    · obtain ⟨e, n, ne, nf, d⟩ := I.pin p hp
      exact ⟨(hs.2 p.1 ne).trans e, n, ne, nf, d⟩
  · have hfn : X.fn x = true := by
      rcases hf with z | z
      · exact z
      · rw [z] at hk; cases hk
    obtain ⟨c, hc⟩ := I.ok.has x (.inl hk)
    obtain ⟨w', z⟩ := I.cell x c hc
    refine wpAny_storeName_cell I.ok.kind hk hc z (fun h' hc' hs => ?_)
    obtain ⟨oc, hoc, hocd⟩ := id z
    refine h { s with heap := h' } ⟨I.ok, I.os, I.bare, ⟨fun b o e n hb hx => ?_, fun b o e n hb hx => ?_, I.base.free, fun b o e hx => ?_, I.base.tups, I.base.frzs, I.base.tbls⟩, ⟨m, hn.sameBut hs (Ne.symm (cne x c hc)), fun j y v' e1 e2 e3 => ?_⟩, fun y c' e => ?_, I.free, I.freeC, fun p hp => ?_, tracked ⟨oc, hoc, I.freeC x c hc⟩ hs, by simpa using I.len⟩ ⟨c, hs, .inr hc⟩
    · exact (hs.2 b (Nat.ne_of_lt (Nat.lt_of_lt_of_le (Heap.lt_size e) (I.ok.cab x c hfn hc)))).trans (I.base.keep b o e n hb hx)
    · obtain ⟨sl, e1⟩ := I.base.slot b o e n hb hx
      exact ⟨sl, (hs.2 b (Nat.ne_of_lt (Nat.lt_of_lt_of_le (Heap.lt_size e) (I.ok.cab x c hfn hc)))).trans e1⟩
    · obtain ⟨o', e1⟩ := I.base.there b o e hx
      exact ⟨o', (hs.2 b (Nat.ne_of_lt (Nat.lt_of_lt_of_le (Heap.lt_size e) (I.ok.cab x c hfn hc)))).trans e1⟩
    · by_cases hj : j = i
      · subst hj
        rw [hi] at e1; cases e1
        rw [List.getElem?_set_self hiσ] at e2
        cases e2
        exact ⟨u, r, .inr ⟨.inl hk, c, hc, hc'⟩⟩
      · rw [List.getElem?_set_ne (Ne.symm hj)] at e2
        obtain ⟨u', r', q⟩ := hl j y v' e1 e2 e3
        refine ⟨u', r', ?_⟩
        rcases q with q | ⟨k, c', e, z'⟩
        · exact .inl q
        · refine .inr ⟨k, c', e, z'.sameBut hs ?_⟩
          rintro rfl
          exact hj (nodup_ix hN e1 (I.ok.inj _ _ _ e hc ▸ hi))
    · by_cases hcc : c' = c
      · subst hcc; exact ⟨_, hc'⟩
      · obtain ⟨w2, z2⟩ := I.cell y c' e
        exact ⟨w2, z2.sameBut hs hcc⟩
    · obtain ⟨e, n, ne, nf, d⟩ := I.pin p hp
      refine ⟨(hs.2 p.1 ?_).trans e, n, ne, nf, d⟩
      intro q
      rw [q, hoc] at e
      have q' : oc = p.2 := Option.some.inj e
      exact d w' (by rw [← q']; exact hocd)
theorem store_ok {M : Model} {A : Around} {E : Value → Shared → Prop} {i : Nat} {x : Str} {v : V} {u : Value} {Q : Unit → Shared → Prop} (I : Inv X pins σ H s) (hN : X.N.Nodup) (hi : X.N[i]? = some x) (hx : Loc X.env.scope x) (r : RelV v u)
    (h : ∀ s', Inv X pins (σ.set i (some v)) H s' → Q () s') (hf : X.fn x = true ∨ X.env.scope.names.lookup x = some .local := by first | exact .inl rfl | exact .inr rfl | assumption) : wpAny M A (storeName X.env x u) Q E s :=
  store_ok2 I hN hi hx r (fun s' I' _ => h s' I') hf
/-- behind a call or a block, the state as it is -/
theorem Inv.call' {s' : Shared} {ch : List Addr} (I : Inv X pins σ H s) (ho : s'.os = s.os) (u : Un (frs X.stack) ch H H' s.heap s'.heap) (hok : HOk X.prog X.w H' s'.heap) (hg : AllBare s'.gens)
    (hch : ∀ b ∈ ch, (b ∈ X.ex ∨ X.s_0.heap.objs.size ≤ b) ∧ b ≠ X.env.locals ∧ (∀ x c, X.env.cells.lookup x = some c → c ≠ b) ∧ ∀ p ∈ X.pn ++ pins, p.1 ≠ b) : Inv X pins σ H' s' := by
  obtain ⟨h', g', d', t', o'⟩ := s'
  have e : o' = s.os := ho
  subst e
  exact I.call (g' := g') (t' := t') (d' := d') u hok hg hch
end
/-! ### the judgements -/
/-- an exception: its class, its own dict's address (where it has one), the abstract heap behind it -/
abbrev XK := Value → Option Addr → Hp → Prop
abbrev St := List (Option V)
abbrev VK := V → Hp → Prop
/-- an expression's reading; a test's; an argument list's -/
abbrev TE := St → Hp → VK → Prop
abbrev TT := St → Hp → (Bool → Hp → Prop) → Prop
abbrev TA := St → Hp → (List V → Hp → Prop) → Prop
/-- what is wanted behind a statement -/
structure Ends where
  nx : St → Hp → Prop
  rt : VK
  bk : St → Hp → Prop := fun _ _ => False
  ct : St → Hp → Prop := fun _ _ => False
abbrev TS := Ends → St → Hp → Prop
def EP (X : Cx) (pins : List (Addr × Obj)) (σ : St) (Q : VK) (u : Value) (s' : Shared) : Prop := ∃ v H', Inv X pins σ H' s' ∧ RelV v u ∧ Q v H'
def TP (X : Cx) (pins : List (Addr × Obj)) (σ : St) (Q : Bool → Hp → Prop) (b : Bool) (s' : Shared) : Prop := ∃ H', Inv X pins σ H' s' ∧ Q b H'
def AP (X : Cx) (pins : List (Addr × Obj)) (σ : St) (Q : List V → Hp → Prop) (us : List Value) (s' : Shared) : Prop := ∃ vs H', Inv X pins σ H' s' ∧ Vals vs us ∧ Q vs H'
def SP (X : Cx) (pins : List (Addr × Obj)) (D : Ends) (f : Flow) (s' : Shared) : Prop :=
  match f with
  | .next => ∃ σ' H', Inv X pins σ' H' s' ∧ D.nx σ' H'
  | .brk => ∃ σ' H', Inv X pins σ' H' s' ∧ D.bk σ' H'
  | .cont => ∃ σ' H', Inv X pins σ' H' s' ∧ D.ct σ' H'
  | .ret u => ∃ v σ' H', Inv X pins σ' H' s' ∧ RelV v u ∧ D.rt v H'
def PE (X : Cx) (e : Expr) (t : TE) : Prop :=
  ∀ (pins : List (Addr × Obj)) (s : Shared) (σ : St) (H : Hp) (Q : VK), Inv X pins σ H s → t σ H Q → wpAny (model X.prog X.w) X.A (eval e X.env) (EP X pins σ Q) X.xe s
def PT (X : Cx) (e : Expr) (t : TT) : Prop :=
  ∀ (pins : List (Addr × Obj)) (s : Shared) (σ : St) (H : Hp) (Q : Bool → Hp → Prop), Inv X pins σ H s → t σ H Q → wpAny (model X.prog X.w) X.A (isTrue e X.env (eval e X.env)) (TP X pins σ Q) X.xe s
/-- a test whatever its 'whole' is (and, or) -/
def PW (X : Cx) (e : Expr) (t : TT) : Prop :=
  ∀ (whole : Sem Value) (pins : List (Addr × Obj)) (s : Shared) (σ : St) (H : Hp) (Q : Bool → Hp → Prop), Inv X pins σ H s → t σ H Q → wpAny (model X.prog X.w) X.A (isTrue e X.env whole) (TP X pins σ Q) X.xe s
theorem PW.pt {X : Cx} {e : Expr} {t : TT} (h : PW X e t) : PT X e t := h _
/-- an argument list (no star), from the left -/
def PA (X : Cx) (es : List Expr) (t : TA) : Prop :=
  ∀ (pos : Pos) (pins : List (Addr × Obj)) (s : Shared) (σ : St) (H : Hp) (Q : List V → Hp → Prop), Inv X pins σ H s → t σ H Q → wpAny (model X.prog X.w) X.A (spliced (backTo pos (starEach es X.env))) (AP X pins σ Q) X.xe s
def PS (X : Cx) (st : Stmt) (t : TS) : Prop :=
  ∀ (pins : List (Addr × Obj)) (s : Shared) (σ : St) (H : Hp) (D : Ends), Inv X pins σ H s → t D σ H → wpAny (model X.prog X.w) X.A (exec st X.env) (SP X pins D) X.xe s
def PSs (X : Cx) (st : List Stmt) (t : TS) : Prop :=
  ∀ (pins : List (Addr × Obj)) (s : Shared) (σ : St) (H : Hp) (D : Ends), Inv X pins σ H s → t D σ H → wpAny (model X.prog X.w) X.A (execs st X.env) (SP X pins D) X.xe s
/-- weaken the end -/
theorem thn {α : Type} {t : Sem α} {Q Q' : α → Shared → Prop} {M : Model} {A : Around} {E : Value → Shared → Prop} {s : Shared} (h : wpAny M A t Q E s) (hQ : ∀ a s, Q a s → Q' a s) : wpAny M A t Q' E s := wpAny_mono h hQ fun _ _ x => x
end L2
namespace L2
open PySem PySem.Spec PyProof.Rows
section
variable {X : Cx}
/-! ### names and constants -/
def tVar (i : Nat) : TE := fun σ H Q => ∃ v, σ[i]? = some (some v) ∧ Q v H
def tC (v : V) : TE := fun _ H Q => Q v H
theorem pe_var {i : Nat} {x : Str} {pos : Pos} (hN : X.N[i]? = some x) (hv : Vis X.env.scope x) (hd : (x == ("__debug__" : Str)) = false := by decide) (hcd : (x == ("__classdict__" : Str)) = false := by decide) : PE X (.Name x pos) (tVar i) := by
  intro pins s σ H Q I h
  obtain ⟨v, e, h⟩ := h
  obtain ⟨m, hn, hl⟩ := I.loc
  obtain ⟨u, r, l⟩ := hl i x v hN e hv
  have fin : EP X pins σ Q u s := ⟨v, H, I, r, h⟩
  rcases l with ⟨hk, hm⟩ | ⟨hk, c, hc, hcell⟩
  · exact wpAny_Name (wpAny_loadName_local I.ok.kind hk hn hm fin) hd
  · rcases hk with hk | hk
    · exact wpAny_Name (wpAny_loadName_cell I.ok.kind hk hc hcell fin) hd
    · exact wpAny_Name (wpAny_loadName_free I.ok.kind hk hc hcell fin hcd) hd
theorem pe_int {i j pos} : PE X (.Constant (.int i) j pos) (tC (.int i)) := fun _ _ _ H _ I h => wpAny_Constant_int ⟨.int i, H, I.tok _, ⟨_, rfl⟩, h⟩
theorem pe_bl {b j pos} : PE X (.Constant (.bool b) j pos) (tC (.bl b)) := fun _ _ _ H _ I h => Constant_bool ⟨.bl b, H, I, rfl, h⟩
/-- a global name of the def -/
def Gl (X : Cx) (x : Str) : Prop := X.env.kindOf x = some .globalImplicit
theorem ld_glob {E : Value → Shared → Prop} {pins : List (Addr × Obj)} {s : Shared} {σ : St} {H : Hp} {x : Str} {u : Value} {pos : Pos} {Q : Value → Shared → Prop} (I : Inv X pins σ H s) (hg : Gl X x) (hm : X.mg x = some u) (h : Q u s)
    (hd : (x == ("__debug__" : Str)) = false := by decide) : wpAny (model X.prog X.w) X.A (eval (.Name x pos) X.env) Q E s :=
  Calls.Name_function_global I.ok.kind hg (Calls.loadGlobal_global (by rw [I.ok.glob]; exact I.mod.glob.keeps I.bk) hm h) hd
theorem ld_blt {E : Value → Shared → Prop} {pins : List (Addr × Obj)} {s : Shared} {σ : St} {H : Hp} {x : Str} {u : Value} {pos : Pos} {Q : Value → Shared → Prop} (I : Inv X pins σ H s) (hg : Gl X x) (hm : X.mg x = none) (hv : bootBuiltins x = some u) (h : Q u s)
    (hn : x ≠ "__name__" := by decide) (hd : (x == ("__debug__" : Str)) = false := by decide) : wpAny (model X.prog X.w) X.A (eval (.Name x pos) X.env) Q E s := by
  obtain ⟨mb, h1, h2⟩ := I.mod.blt
  exact Calls.Name_function_global I.ok.kind hg (Calls.loadGlobal_builtin (by rw [I.ok.glob]; exact I.mod.glob.keeps I.bk) hm (by rw [I.ok.blt]; exact h1.keeps I.bk) ((h2 x hn).trans hv) h) hd
/-- a module's constant, a class, a function, as a value -/
theorem pe_glob {x : Str} {v : V} {u : Value} {pos : Pos} (hg : Gl X x) (hm : X.mg x = some u) (r : RelV v u) (hd : (x == ("__debug__" : Str)) = false := by decide) : PE X (.Name x pos) (tC v) :=
  fun _ _ _ H _ I h => ld_glob I hg hm ⟨v, H, I, r, h⟩ hd
/-! ### arithmetic -/
variable {a b : Expr} {ta tb : TE} {pos : Pos}
/-! ### comparisons -/
/-- a comparison as a value, as a test -/
def tB (t : TE) : TT := fun σ H Q => t σ H fun x H1 => ∃ c, x = .bl c ∧ Q c H1
/-- an expression whose value is a bool, as a test -/
theorem pt_val {e : Expr} {t : TE} (h : PE X e t) (he : ∀ whole, isTrue e X.env whole = (do let v ← whole; standAt e.pos; holding [v] (truthy v)) := by intro _; rfl) : PT X e (tB t) := by
  intro pins s σ H Q I hw
  refine isTrue_plain (thn (h pins s σ H _ I hw) fun v s1 ⟨x, H1, I1, r1, q1⟩ => ?_) (he _)
  obtain ⟨d, rfl, q⟩ := q1
  cases r1
  exact wpAny_truthy_bool ⟨H1, I1, q⟩
/-! ### and, or, not -/
variable {tA tB' : TT} {rest : List Expr}
def tAnd (t u : TT) : TT := fun σ H Q => t σ H fun c H1 => if c = true then u σ H1 Q else Q false H1
def tNot (t : TT) : TT := fun σ H Q => t σ H fun c H1 => Q (!c) H1
theorem pw_and1 (ha : PT X a tA) : PW X (.BoolOp .And [a] pos) tA := by
  intro wh pins s σ H Q I h
  refine isTrue_and (thn (ha pins s σ H Q I h) fun c s1 e => ?_)
  cases c with
  | true => exact isTrue_and_nil e
  | false => exact e
theorem pw_and (ha : PT X a tA) (hb : PW X (.BoolOp .And (b :: rest) pos) tB') : PW X (.BoolOp .And (a :: b :: rest) pos) (tAnd tA tB') := by
  intro wh pins s σ H Q I h
  refine isTrue_and (thn (ha pins s σ H _ I h) fun c s1 ⟨H1, I1, q1⟩ => ?_)
  cases c with
  | true => exact hb wh pins s1 σ H1 Q I1 q1
  | false => exact ⟨H1, I1, q1⟩
theorem pt_not (ha : PT X a tA) : PT X (.UnaryOp .Not a pos) (tNot tA) := by
  intro pins s σ H Q I h
  exact isTrue_not (ha pins s σ H (fun c H1 => Q (!c) H1) I h)
/-- .. as values (bools) -/
def tAndV (ta tb : TE) : TE := fun σ H Q => ta σ H fun x H1 => ∃ c, x = .bl c ∧ if c = true then tb σ H1 Q else Q (.bl false) H1
def tOrV (ta tb : TE) : TE := fun σ H Q => ta σ H fun x H1 => ∃ c, x = .bl c ∧ if c = true then Q (.bl true) H1 else tb σ H1 Q
theorem pe_one {op} {t : TE} (h : PE X a t) : PE X (.BoolOp op [a] pos) t := fun pins s σ H Q I hw => BoolOp_one (h pins s σ H Q I hw)
theorem pe_and (ha : PE X a ta) (hb : PE X (.BoolOp .And (b :: rest) pos) tb) : PE X (.BoolOp .And (a :: b :: rest) pos) (tAndV ta tb) := by
  intro pins s σ H Q I h
  refine BoolOp_and (thn (ha pins s σ H _ I h) fun v s1 ⟨x, H1, I1, r1, q1⟩ => ?_)
  obtain ⟨c, rfl, q1⟩ := q1
  cases r1
  refine wpAny_truthy_bool ?_
  cases c with
  | true => exact hb pins s1 σ H1 Q I1 q1
  | false => exact ⟨.bl false, H1, I1, rfl, q1⟩
theorem pe_or (ha : PE X a ta) (hb : PE X (.BoolOp .Or (b :: rest) pos) tb) : PE X (.BoolOp .Or (a :: b :: rest) pos) (tOrV ta tb) := by
  intro pins s σ H Q I h
  refine BoolOp_or (thn (ha pins s σ H _ I h) fun v s1 ⟨x, H1, I1, r1, q1⟩ => ?_)
  obtain ⟨c, rfl, q1⟩ := q1
  cases r1
  refine wpAny_truthy_bool ?_
  cases c with
  | false => exact hb pins s1 σ H1 Q I1 q1
  | true => exact ⟨.bl true, H1, I1, rfl, q1⟩
/-- a if t else b -/
def tIf (t : TT) (ta tb : TE) : TE := fun σ H Q => t σ H fun c H1 => if c = true then ta σ H1 Q else tb σ H1 Q
theorem pe_ifExp {c : Expr} (hc : PT X c tA) (ha : PE X a ta) (hb : PE X b tb) : PE X (.IfExp c a b pos) (tIf tA ta tb) := by
  intro pins s σ H Q I h
  refine wpAny_IfExp (thn (hc pins s σ H _ I h) fun d s1 ⟨H1, I1, q1⟩ => ?_)
  cases d with
  | true => exact ha pins s1 σ H1 Q I1 q1
  | false => exact hb pins s1 σ H1 Q I1 q1
end
end L2
namespace L2
open PySem PySem.Spec PyProof.Rows
/-! ### a list, a tuple that is read: tracked, frozen, or an object of the module -/
def SqL (K : PySem.W.Frag) (H : Hp) (a : Addr) (xs : List V) : Prop :=
  Rd H a (.lst xs) ∨
    ∃ (o : Obj) (its : Array Value) (n : Nat), K.lookup a = some o ∧ o.cls = .type "list" ∧ o.dict = none ∧ o.data = .seq its n ∧ its.size ≤ sizeLine ∧ Vals xs its.toList
def SqT (K : PySem.W.Frag) (H : Hp) (a : Addr) (xs : List V) : Prop :=
  Rd H a (.tup xs) ∨
    ∃ (o : Obj) (its : Array Value) (n : Nat), K.lookup a = some o ∧ o.cls = .type "tuple" ∧ o.data = .seq its n ∧ its.size ≤ sizeLine ∧ Vals xs its.toList
def absV : Value → Option V
  | .none => some .non
  | .bool b => some (.bl b)
  | .int i _ => some (.int i)
  | .str x _ => some (.str x)
  | .bytes b _ => some (.byt b)
  | .float b _ => some (.flt b)
  | .ref a => some (.ref a)
  | .type n => some (.ty n)
  | _ => none
theorem RelV.abs {x : V} {u : Value} (r : RelV x u) : absV u = some x := by
  cases x with
  | non => cases r; rfl
  | bl _ => cases r; rfl
  | int _ => obtain ⟨t, rfl⟩ := r; rfl
  | str _ => obtain ⟨t, rfl⟩ := r; rfl
  | byt _ => obtain ⟨t, rfl⟩ := r; rfl
  | flt _ => obtain ⟨t, rfl⟩ := r; rfl
  | ref _ => cases r; rfl
  | ty _ => cases r; rfl
theorem RelV.inj {x y : V} {u : Value} (r : RelV x u) (q : RelV y u) : x = y := Option.some.inj (r.abs.symm.trans q.abs)
theorem Vals.inj : ∀ {xs ys : List V} {us : List Value}, Vals xs us → Vals ys us → xs = ys
  | _, _, _, .nil, .nil => rfl
  | _, _, _, .cons r t, .cons r' t' => by rw [r.inj r', Vals.inj t t']
section
variable {X : Cx} {pins : List (Addr × Obj)} {σ : St} {H : Hp} {s : Shared} {a : Addr} {xs ys : List V}
theorem SqL.of {K : PySem.W.Frag} (h : H a = some (.lst xs)) : SqL K H a xs := .inl (.inl h)
theorem SqT.of {K : PySem.W.Frag} (h : H a = some (.tup xs)) : SqT K H a xs := .inl (.inl h)
theorem Inv.list (I : Inv X pins σ H s) (h : SqL X.K H a xs) : ∃ its : List Value, Vals xs its ∧ PlainL s.heap a its.toArray ∧ xs.length ≤ sizeLine := by
  rcases h with h | ⟨o, its, n, hk, hc, hd, hs, hz, r⟩
  · obtain ⟨z, its, n, r, e⟩ := h.ok I.hok
    exact ⟨its, r, ⟨_, n, e, rfl, rfl, rfl⟩, z⟩
  · refine ⟨its.toList, r, ⟨o, n, I.kIn a o hk, hc, hd, by simpa using hs⟩, ?_⟩
    have e := r.length
    simp only [Array.length_toList] at e
    omega
theorem Inv.tuple (I : Inv X pins σ H s) (h : SqT X.K H a xs) : ∃ its : List Value, Vals xs its ∧ IsTup s.heap a its.toArray ∧ xs.length ≤ sizeLine := by
  rcases h with h | ⟨o, its, n, hk, hc, hs, hz, r⟩
  · obtain ⟨z, its, r, p⟩ := h.ok I.hok
    exact ⟨its, r, p, z⟩
  · refine ⟨its.toList, r, ⟨o, I.kIn a o hk, hc, n, by simpa using hs⟩, ?_⟩
    have e := r.length
    simp only [Array.length_toList] at e
    omega
theorem Inv.list_inj (I : Inv X pins σ H s) (h : SqL X.K H a xs) (h' : SqL X.K H a ys) : xs = ys := by
  obtain ⟨its, r, ⟨o, n, e, _, _, d⟩, _⟩ := I.list h
  obtain ⟨its', r', ⟨o', n', e', _, _, d'⟩, _⟩ := I.list h'
  rw [e] at e'; cases e'
  rw [d] at d'
  injection d' with d1 _
  have : its = its' := by simpa using congrArg Array.toList d1
  subst this
  exact r.inj r'
end
/-! ### another wish about exceptions -/
abbrev Cx.wish (X : Cx) (E : Value → Shared → Prop) : Cx := { X with xe := E }
/-- no exception leaves -/
abbrev Cx.nox (X : Cx) : Cx := X.wish fun _ _ => False
theorem Cx.Ok.wish {X : Cx} (ok : X.Ok) (E : Value → Shared → Prop) : (X.wish E).Ok :=
  ⟨ok.mod, ok.kind, ok.glob, ok.blt, ok.above, ok.inj, ok.has, ok.cab, ok.hd, ok.frames, ok.stk, ok.exf, ok.bs, ok.bsz, ok.noex, ok.exfs, ok.funs, ok.frf⟩
theorem Cx.Ok.unwish {X : Cx} {E : Value → Shared → Prop} (ok : (X.wish E).Ok) : X.Ok :=
  ⟨ok.mod, ok.kind, ok.glob, ok.blt, ok.above, ok.inj, ok.has, ok.cab, ok.hd, ok.frames, ok.stk, ok.exf, ok.bs, ok.bsz, ok.noex, ok.exfs, ok.funs, ok.frf⟩
section
variable {X : Cx} {pins : List (Addr × Obj)} {σ : St} {H : Hp} {s : Shared} {E : Value → Shared → Prop}
theorem Inv.wish (I : Inv X pins σ H s) (E : Value → Shared → Prop) : Inv (X.wish E) pins σ H s := ⟨I.ok.wish E, I.os, I.bare, I.base, I.loc, I.cell, I.free, I.freeC, I.pin, I.hok, I.len⟩
theorem Inv.unwish (I : Inv (X.wish E) pins σ H s) : Inv X pins σ H s := ⟨I.ok.unwish, I.os, I.bare, I.base, I.loc, I.cell, I.free, I.freeC, I.pin, I.hok, I.len⟩
theorem SP.unwish {D : Ends} {f : Flow} {s' : Shared} (h : SP (X.wish E) pins D f s') : SP X pins D f s' := by
  cases f with
  | next => obtain ⟨σ', H', I, q⟩ := h; exact ⟨σ', H', I.unwish, q⟩
  | brk => obtain ⟨σ', H', I, q⟩ := h; exact ⟨σ', H', I.unwish, q⟩
  | cont => obtain ⟨σ', H', I, q⟩ := h; exact ⟨σ', H', I.unwish, q⟩
  | ret u => obtain ⟨v, σ', H', I, r, q⟩ := h; exact ⟨v, σ', H', I.unwish, r, q⟩
theorem PSs.nox {st : List Stmt} {t : TS} (h : PSs X.nox st t) : PSs X st t := fun pins s σ H D I hw =>
  wpAny_mono (h pins s σ H D (I.wish _) hw) (fun _ _ q => q.unwish) fun _ _ z => False.elim z
end
/-! ### blocks and small statements -/
section
variable {X : Cx} {st : Stmt} {rest : List Stmt} {t u : TS} {e : Expr} {te : TE} {pos : Pos}
def tNext : TS := fun D σ H => D.nx σ H
def tSeq (t u : TS) : TS := fun D σ H => t { D with nx := u D } σ H
theorem pss_nil : PSs X [] tNext := fun _ _ σ H _ I h => wpAny_execs_nil ⟨σ, H, I, h⟩
theorem pss_cons (h1 : PS X st t) (h2 : PSs X rest u) : PSs X (st :: rest) (tSeq t u) := by
  intro pins s σ H D I h
  refine wpAny_execs_cons (thn (h1 pins s σ H { D with nx := u D } I h) fun f s1 q => ?_)
  cases f with
  | next =>
    obtain ⟨σ', H', I', q⟩ := q
    exact h2 pins s1 σ' H' D I' q
  | ret v => exact q
  | brk => exact q
  | cont => exact q
theorem pss_one (h1 : PS X st t) : PSs X [st] t := by
  intro pins s σ H D I h
  refine wpAny_execs_cons (thn (h1 pins s σ H D I h) fun f s1 q => ?_)
  cases f with
  | next => exact wpAny_execs_nil q
  | ret v => exact q
  | brk => exact q
  | cont => exact q
/-- in a def's body nothing is shown -/
theorem Inv.quiet {pins : List (Addr × Obj)} {σ : St} {H : Hp} {s : Shared} (I : Inv X pins σ H s) : interactive X.env = false := by simp [interactive, I.ok.kind]
/-- an expression whose value is dropped -/
def tDrop (te : TE) : TS := fun D σ H => te σ H fun _ H1 => D.nx σ H1
theorem ps_expr (he : PE X e te) (hs : swapsWith e none pos.line X.env = pure false := by rfl) : PS X (.Expr e pos) (tDrop te) := by
  intro pins s σ H D I h
  exact wpAny_Expr_any (thn (he pins s σ H _ I h) fun v s1 ⟨x, H1, I1, r1, q1⟩ => ⟨σ, H1, I1, q1⟩) I.quiet hs
def tRet (te : TE) : TS := fun D σ H => te σ H D.rt
theorem ps_ret (he : PE X e te) : PS X (.Return (some e) pos) (tRet te) := by
  intro pins s σ H D I h
  exact wpAny_Return_some (thn (he pins s σ H _ I h) fun v s1 ⟨x, H1, I1, r1, q1⟩ => ⟨x, σ, H1, I1, r1, q1⟩)
def tIfS (c : TT) (t u : TS) : TS := fun D σ H => c σ H fun b H1 => if b = true then t D σ H1 else u D σ H1
theorem ps_if {c : Expr} {a b : List Stmt} {tc : TT} (hc : PT X c tc) (ha : PSs X a t) (hb : PSs X b u) : PS X (.If c a b pos) (tIfS tc t u) := by
  intro pins s σ H D I h
  refine wpAny_If (thn (hc pins s σ H _ I h) fun d s1 ⟨H1, I1, q1⟩ => ?_)
  cases d with
  | true => exact ha pins s1 σ H1 D I1 q1
  | false => exact hb pins s1 σ H1 D I1 q1
end
/-! ### targets -/
abbrev TG := V → St → Hp → (St → Hp → Prop) → Prop
abbrev TGs := List V → St → Hp → (St → Hp → Prop) → Prop
def PG (X : Cx) (target : Expr) (t : TG) : Prop :=
  ∀ (pins : List (Addr × Obj)) (s : Shared) (σ : St) (H : Hp) (v : V) (u : Value) (Q : St → Hp → Prop), Inv X pins σ H s → RelV v u → t v σ H Q →
    wpAny (model X.prog X.w) X.A (assign target X.env u) (fun _ s' => ∃ σ' H', Inv X pins σ' H' s' ∧ Q σ' H') X.xe s
/-- several targets, one after another -/
def PGs (X : Cx) (ts : List Expr) (t : TGs) : Prop :=
  ∀ (pins : List (Addr × Obj)) (s : Shared) (σ : St) (H : Hp) (vs : List V) (us : List Value) (Q : St → Hp → Prop), Inv X pins σ H s → Vals vs us → t vs σ H Q →
    wpAny (model X.prog X.w) X.A (assignInOrder ((assignEach ts X.env).map (·.2)) us) (fun _ s' => ∃ σ' H', Inv X pins σ' H' s' ∧ Q σ' H') X.xe s
/-- o[i] = v, by values -/
abbrev TSet := V → V → V → Hp → (Hp → Prop) → Prop
def PSet (X : Cx) (t : TSet) : Prop :=
  ∀ (pins : List (Addr × Obj)) (s : Shared) (σ : St) (H : Hp) (o i v : V) (ov iv u : Value) (Q : Hp → Prop), Inv X pins σ H s → RelV o ov → RelV i iv → RelV v u → t o i v H Q →
    wpAny (model X.prog X.w) X.A (setItem ov iv u) (fun _ s' => ∃ H', Inv X pins σ H' s' ∧ Q H') X.xe s
section
variable {X : Cx} {pos : Pos}
def gName (i : Nat) : TG := fun v σ H Q => Q (σ.set i (some v)) H
theorem pg_name {i : Nat} {x : Str} (hN : X.N.Nodup) (hi : X.N[i]? = some x) (hx : Loc X.env.scope x) (hf : X.fn x = true ∨ X.env.scope.names.lookup x = some .local := by first | exact .inl rfl | exact .inr rfl | assumption) : PG X (.Name x pos) (gName i) := by
  intro pins s σ H v u Q I r h
  exact wpAny_assign_Name (store_ok I hN hi hx r (fun s' I' => ⟨_, H, I', h⟩) hf)
def gNil : TGs := fun vs σ H Q => vs = [] ∧ Q σ H
def gCons (t : TG) (u : TGs) : TGs := fun vs σ H Q => ∃ v r, vs = v :: r ∧ t v σ H fun σ' H' => u r σ' H' Q
theorem pgs_nil : PGs X [] gNil := by
  intro pins s σ H vs us Q I r h
  obtain ⟨e, h⟩ := h
  subst e
  cases r
  exact assignInOrder_nil ⟨σ, H, I, h⟩
theorem pgs_cons {e : Expr} {es : List Expr} {t : TG} {u : TGs} (h1 : PG X e t) (h2 : PGs X es u)
    (hs : (assignEach (e :: es) X.env).map (·.2) = assign e X.env :: (assignEach es X.env).map (·.2) := by rfl) : PGs X (e :: es) (gCons t u) := by
  intro pins s σ H vs us Q I r h
  obtain ⟨v, vr, e1, h⟩ := h
  subst e1
  cases r with
  | cons r rr =>
    rw [hs]
    refine assignInOrder_cons (thn (h1 pins s σ H _ _ _ I r h) fun _ s1 ⟨σ1, H1, I1, q1⟩ => ?_)
    exact h2 pins s1 σ1 H1 _ _ Q I1 rr q1
/-- (a, b, ..) = a tuple of that length -/
def gTup (K : PySem.W.Frag) (n : Nat) (t : TGs) : TG := fun v σ H Q => ∃ a xs, v = .ref a ∧ SqT K H a xs ∧ xs.length = n ∧ t xs σ H Q
theorem pg_tup {es : List Expr} {k : Nat} {t : TGs} {n : Nat} (hc : X.calm = true) (h : PGs X es t)
    (hn : (assignEach es X.env).length = n := by rfl) (hst : (assignEach es X.env).findIdx? (·.1) = none := by rfl) : PG X (.Tuple es k pos) (gTup X.K n t) := by
  intro pins s σ H v u Q I r hw
  obtain ⟨a, xs, e1, hq, hl, hw⟩ := hw
  subst e1
  cases r
  obtain ⟨its, rv, ht, hz⟩ := I.tuple hq
  refine assign_Tuple_tuple (I.ok.hd hc) ht (by simp [hn, ← hl, rv.length]) hst fun h' hx => ?_
  have I1 : Inv X pins σ H { s with heap := h' } := I.kept (t' := s.toks) fun b o e => hx b o (Nat.ne_of_lt (Heap.lt_size e)) e
  exact h pins _ σ H xs _ Q I1 (by simpa using rv) hw
/-- o[i] = .. -/
def gSub (to ti : TE) (t : TSet) : TG := fun v σ H Q => to σ H fun o H1 => ti σ H1 fun i H2 => t o i v H2 fun H3 => Q σ H3
theorem pg_sub {o i : Expr} {to ti : TE} {t : TSet} (ho : PE X o to) (hi : PE X i ti) (hs : PSet X t)
    (ha : ∀ v, assign (.Subscript o i pos) X.env v = (do
      let ov ← holding [v] (eval o X.env)
      let iv ← holding [v, ov] (eval i X.env)
      standAt pos
      holding [v, ov, iv] (setItem ov iv v)
      release [v, ov, iv] []) := by intro _; rfl) : PG X (.Subscript o i pos) (gSub to ti t) := by
  intro pins s σ H v u Q I r h
  rw [ha]
  refine wpAny_bind (wpAny_holding (thn (ho pins s σ H _ I h) fun ov s1 ⟨x, H1, I1, r1, q1⟩ => ?_))
  refine wpAny_bind (wpAny_holding (thn (hi pins s1 σ H1 _ I1 q1) fun iv s2 ⟨y, H2, I2, r2, q2⟩ => ?_))
  refine wpAny_bind (wpAny_standAt (wpAny_bind (wpAny_holding (thn (hs pins s2 σ H2 x y v ov iv u _ I2 r1 r2 r q2) fun _ s3 ⟨H3, I3, q3⟩ => ?_))))
  exact wpAny_release ⟨σ, H3, I3, q3⟩
/-- target = value -/
def tAsg (te : TE) (g : TG) : TS := fun D σ H => te σ H fun x H1 => g x σ H1 D.nx
theorem ps_asg {tg e : Expr} {te : TE} {g : TG} (he : PE X e te) (hg : PG X tg g) (hs : swapsWithSole [tg] e pos.line X.env = pure false := by rfl) (hw : swappedStores [tg] e X.env = pure none := by rfl)
    (h1 : (assignEach [tg] X.env).map (·.2) = [assign tg X.env] := by rfl) : PS X (.Assign [tg] e pos) (tAsg te g) := by
  intro pins s σ H D I h
  refine wpAny_Assign_stores (thn (he pins s σ H _ I h) fun v s1 ⟨x, H1, I1, r1, q1⟩ => ?_) hs hw
  rw [h1]
  exact thn (hg pins s1 σ H1 x v _ I1 r1 q1) fun _ s2 q => q
/-- name = value -/
theorem ps_set {i : Nat} {x : Str} {e : Expr} {te : TE} {pos' : Pos} (hN : X.N.Nodup) (hi : X.N[i]? = some x) (hx : Loc X.env.scope x) (he : PE X e te) (hs : swapsWith e (some (.Name x pos')) pos.line X.env = pure false := by rfl) (hf : X.fn x = true ∨ X.env.scope.names.lookup x = some .local := by first | exact .inl rfl | exact .inr rfl | assumption) :
    PS X (.Assign [.Name x pos'] e pos) (tAsg te (gName i)) := by
  intro pins s σ H D I h
  refine wpAny_Assign_Name (thn (he pins s σ H _ I h) fun v s1 ⟨y, H1, I1, r1, q1⟩ => ?_) hs
  exact store_ok I1 hN hi hx r1 (fun s2 I2 => ⟨_, H1, I2, q1⟩) hf
end
/-! ### while -/
section
variable {X : Cx} {pos : Pos}
/-- the invariant W with its measure -/
def tWhile (c : TT) (tb : TS) : TS := fun D σ H => ∃ W : Nat → St → Hp → Prop, (∃ m, W m σ H) ∧ ∀ m σ H, W m σ H →
  c σ H fun b H1 => if b = true then ∃ N : St → Hp → Prop, (∀ σ' H', N σ' H' → ∃ m', m' < m ∧ W m' σ' H') ∧ tb { D with nx := N, ct := N, bk := D.nx } σ H1 else D.nx σ H1
theorem ps_while {c : Expr} {body : List Stmt} {tc : TT} {tb : TS} (hp : PassesOwn (model X.prog X.w) X.A X.env X.xe) (hc : PT X c tc) (hb : PSs X body tb) : PS X (.While c body [] pos) (tWhile tc tb) := by
  intro pins s σ H D I h
  obtain ⟨W, ⟨m0, w0⟩, turn⟩ := h
  refine wpAny_While (codeAny_whileLoop (fun n s' => ∃ σ' H', Inv X pins σ' H' s' ∧ W n σ' H') ?_ m0 ⟨σ, H, I, w0⟩)
  rintro n s1 ⟨σ1, H1, I1, w1⟩
  refine wpAny_passesOwn hp (thn (hc pins s1 σ1 H1 _ I1 (turn n σ1 H1 w1)) fun b s2 ⟨H2, I2, q2⟩ => ?_)
  cases b with
  | true =>
    obtain ⟨N, hN, q2⟩ := q2
    rw [if_pos rfl]
    refine wpAny_passesOwn hp (thn (hb pins s2 σ1 H2 _ I2 q2) fun f s3 q3 => ?_)
    cases f with
    | next =>
      obtain ⟨σ3, H3, I3, n3⟩ := q3
      obtain ⟨m', hm, w3⟩ := hN σ3 H3 n3
      exact ⟨m', hm, σ3, H3, I3, w3⟩
    | cont =>
      obtain ⟨σ3, H3, I3, n3⟩ := q3
      obtain ⟨m', hm, w3⟩ := hN σ3 H3 n3
      exact ⟨m', hm, σ3, H3, I3, w3⟩
    | brk => exact q3
    | ret v => exact q3
  | false =>
    rw [if_neg Bool.false_ne_true]
    exact wpAny_execs_nil ⟨σ1, H2, I2, q2⟩
end
/-! ### what a loop or a comprehension walks -/
/-- at turn i: it yields x (the heap may grow), or it stops -/
structure It where
  go : Nat → Hp → Prop
  yld : Nat → Hp → V → Hp → Prop
  stop : Nat → Hp → Prop
/-- the iterator's own objects may turn: they are not the frame's, not pinned, younger than the entry (or a comprehension's own) -/
def FpOk (X : Cx) (pins : List (Addr × Obj)) (H : Hp) (b : Addr) : Prop :=
  H b = none ∧ b ≠ X.env.locals ∧ b ∉ X.fs ∧ (b ∈ X.ex ∨ X.s_0.heap.objs.size ≤ b) ∧ (∀ x c, X.env.cells.lookup x = some c → c ≠ b) ∧ ∀ p ∈ X.pn ++ pins, p.1 ≠ b
theorem Inv.fpOk {X : Cx} {pins : List (Addr × Obj)} {σ : St} {H H' : Hp} {s : Shared} {b : Addr} (I : Inv X pins σ H s) (hb : s.heap.objs.size ≤ b) (hn : H' b = none) : FpOk X pins H' b := by
  refine ⟨hn, Nat.ne_of_gt (Nat.lt_of_lt_of_le I.lt hb), I.nofs hb, .inr (Nat.le_trans I.sz hb), fun x c e z => ?_, fun p hp z => ?_⟩
  · obtain ⟨v, q⟩ := I.cell x c e
    exact absurd (Nat.lt_of_lt_of_le q.lt (by rw [z]; exact hb)) (Nat.lt_irrefl _)
  · exact absurd (Nat.lt_of_lt_of_le (Heap.lt_size (I.pin p hp).1) (by rw [z]; exact hb)) (Nat.lt_irrefl _)
structure Turn (P : Program) (w : World) (K : PySem.W.Frag) (tg : Expr) (J : It) (fp : List Addr) (it : Addr) (tn : Nat → Heap → Prop) : Prop where
  mem : it ∈ fp
  obj : ∀ i h, tn i h → ∀ b ∈ fp, ∃ o, h.get? b = some o ∧ ∀ v, o.data ≠ .cell v
  keep : ∀ i h h', tn i h → (∀ b ∈ fp, ∀ o, h.get? b = some o → h'.get? b = some o) → tn i h'
  item : ∀ (X : Cx), X.prog = P → X.w = w → X.K = K → X.calm = true → ∀ (i : Nat) (pins : List (Addr × Obj)) (s : Shared) (σ : St) (H : Hp) (E : Value → Shared → Prop), Inv X pins σ H s → (∀ b ∈ fp, FpOk X pins H b) → tn i s.heap → J.go i H →
    wpAny (model P w) X.A (pyNext (.ref it)) (fun r s1 => ∃ u, r = some u ∧
      wpAny (model P w) X.A (letOwnedTupleGo tg (.ref it) u) (fun _ s2 => ∃ x H', Inv X pins σ H' s2 ∧ RelV x u ∧ J.yld i H x H' ∧ tn (i + 1) s2.heap ∧ ∀ b ∈ fp, H' b = none) E s1) E s
  done : ∀ (X : Cx), X.prog = P → X.w = w → X.K = K → X.calm = true → ∀ (i : Nat) (pins : List (Addr × Obj)) (s : Shared) (σ : St) (H : Hp) (E : Value → Shared → Prop), Inv X pins σ H s → (∀ b ∈ fp, FpOk X pins H b) → tn i s.heap → J.stop i H →
    wpAny (model P w) X.A (pyNext (.ref it)) (fun r s1 => r = none ∧ Inv X pins σ H s1) E s
  self : ∀ (A : Around) (i : Nat) (s : Shared) (Q : Value → Shared → Prop) (E : Value → Shared → Prop), tn i s.heap → Q (.ref it) s → wpAny (model P w) A (pyIter (.ref it)) Q E s
abbrev TI := St → Hp → (It → Hp → Prop) → Prop
/-- an iterator has come -/
def PIE (X : Cx) (pins : List (Addr × Obj)) (σ : St) (tg : Expr) (R : It → Hp → Prop) (itv : Value) (s2 : Shared) : Prop :=
  ∃ (it : Addr) (fp : List Addr) (tn : Nat → Heap → Prop) (J : It) (H' : Hp), itv = .ref it ∧ Inv X pins σ H' s2 ∧ Turn X.prog X.w X.K tg J fp it tn ∧ tn 0 s2.heap ∧ (∀ b ∈ fp, FpOk X pins H' b) ∧ R J H'
def PI (X : Cx) (tg iter : Expr) (wi : TI) : Prop :=
  ∀ (pins : List (Addr × Obj)) (s : Shared) (σ : St) (H : Hp) (R : It → Hp → Prop), Inv X pins σ H s → wi σ H R →
    wpAny (model X.prog X.w) X.A (eval iter X.env) (fun v s1 => wpAny (model X.prog X.w) X.A (pyIter v) (PIE X pins σ tg R) X.xe s1) X.xe s
/-- the step ahead of the store is nothing for an iterator that keeps no tuple -/
theorem go_of {M : Model} {A : Around} {E : Value → Shared → Prop} {s : Shared} {tg : Expr} {it : Addr} {u : Value} {o : Obj} {n : String} {vs : Array Value} {Q : Unit → Shared → Prop} (ho : s.heap.get? it = some o) (hc : o.cls = .type n) (hd : o.data = .fields vs)
    (hn : ["enumerate", "zip", "dict_itemiterator", "dict_reverseitemiterator", "odict_iterator", "itertools.zip_longest", "itertools.pairwise"].contains n = false) (hQ : Q () s) : wpAny M A (letOwnedTupleGo tg (.ref it) u) Q E s := by
  unfold letOwnedTupleGo
  cases tg <;> first
    | exact wpAny_pure hQ
    | (cases u <;> first
        | exact wpAny_pure hQ
        | (refine wpAny_bind (wpAny_load ho ?_)
           rw [hc, hd]
           show wpAny M A (if (["enumerate", "zip", "dict_itemiterator", "dict_reverseitemiterator", "odict_iterator", "itertools.zip_longest", "itertools.pairwise"].contains n && vs[0]? == some (rawInt _)) = true then _ else _) Q E s
           rw [if_neg (by intro h; rw [hn, Bool.false_and] at h; cases h)]
           exact wpAny_pure hQ))
/-- the list at a, as it stands at each turn (a loop may append to it) -/
def Itl (K : PySem.W.Frag) (a : Addr) : It :=
  ⟨fun i H => ∃ xs x, SqL K H a xs ∧ xs[i]? = some x, fun i H x H' => H' = H ∧ ∀ xs, SqL K H a xs → xs[i]? = some x, fun i H => ∃ xs, SqL K H a xs ∧ xs.length ≤ i⟩
/-- lo, lo + 1, .. (n of them) -/
def Itr (lo : Int) (n : Nat) : It := ⟨fun i _ => i < n, fun i H x H' => H' = H ∧ x = .int (lo + i), fun i _ => n ≤ i⟩
theorem turn_list {P : Program} {w : World} {K : PySem.W.Frag} {tg : Expr} (a it : Addr) : Turn P w K tg (Itl K a) [it] it (fun i h => h.IsListIter it a i) where
  mem := by simp
  obj := fun i h st b hb => by
    have e : b = it := by simpa using hb
    subst e
    obtain ⟨o, e, c, d⟩ := st
    exact ⟨o, e, fun v z => by rw [d] at z; cases z⟩
  keep := fun i h h' st k => st.at fun o e => k it (by simp) o e
  item := by
    intro X hP hw hK hc i pins s σ H E I hf st hg
    subst hP hw hK
    obtain ⟨xs, x, hq, hx⟩ := hg
    obtain ⟨its, rv, p, hz⟩ := I.list hq
    obtain ⟨u, hu, ru⟩ := rv.get hx
    obtain ⟨f0, f1, f2, f3, f4, f5⟩ := hf it (by simp)
    refine wpAny_pyNext_list_item st p.isList (x := u) (by simpa using hu) fun h' st' sb => ?_
    have I1 : Inv X pins σ H { s with heap := h' } := I.turned (t' := s.toks) (fun b o hb e => (sb.2 b hb).trans e) f0 f1 f3 f4 f5
    obtain ⟨o, e, c, d⟩ := id st'
    exact ⟨u, rfl, go_of (s := { s with heap := h' }) e c d (by decide) ⟨x, H, I1, ru, ⟨rfl, fun ys hy => by rw [I.list_inj hy hq]; exact hx⟩, st', fun b hb => (hf b hb).1⟩⟩
  done := by
    intro X hP hw hK hc i pins s σ H E I hf st hg
    subst hP hw hK
    obtain ⟨xs, hq, hx⟩ := hg
    obtain ⟨its, rv, p, hz⟩ := I.list hq
    obtain ⟨f0, f1, f2, f3, f4, f5⟩ := hf it (by simp)
    have hl := rv.length
    exact wpAny_pyNext_list_end (I.ok.hd hc) st p.isList (by simp; omega) fun h' eb => ⟨rfl, I.turned (t' := s.toks) (fun b o hb e => eb b o hb e) f0 f1 f3 f4 f5⟩
  self := fun _ _ _ _ _ st h => wpAny_pyIter_listiter st h
theorem turn_range {P : Program} {w : World} {K : PySem.W.Frag} {tg : Expr} (it : Addr) (lo : Int) (n : Nat) : Turn P w K tg (Itr lo n) [it] it (fun i h => IsRangeIter h it (lo + (i : Nat) * 1) ((n : Int) - (i : Nat)) 1) where
  mem := by simp
  obj := fun i h st b hb => by
    have e : b = it := by simpa using hb
    subst e
    exact ⟨_, st, fun v z => by
      have z' : Data.fields _ = Data.cell v := z
      cases z'⟩
  keep := fun i h h' st k => k it (by simp) _ st
  item := by
    intro X hP hw hK hc i pins s σ H E I hf st hg
    subst hP hw hK
    obtain ⟨f0, f1, f2, f3, f4, f5⟩ := hf it (by simp)
    have W := Walks.range (prog := X.prog) (w := X.w) (I.ok.hd hc) it lo 1 n
    refine W.item i s _ _ hg st fun v h' tk hv st' kk => ?_
    obtain ⟨t, rfl⟩ := hv
    have I1 : Inv X pins σ H { s with heap := h', toks := tk } := I.turned (fun b o hb e => kk b o (by simpa using hb) e) f0 f1 f3 f4 f5
    refine ⟨_, rfl, go_of (s := { s with heap := h', toks := tk }) (n := "range_iterator") st' rfl rfl (by decide) ⟨.int (lo + i), H, I1, ⟨t, ?_⟩, ⟨rfl, rfl⟩, st', fun b hb => (hf b hb).1⟩⟩
    rw [Int.mul_one]
  done := by
    intro X hP hw hK hc i pins s σ H E I hf st hg
    subst hP hw hK
    obtain ⟨f0, f1, f2, f3, f4, f5⟩ := hf it (by simp)
    exact wpAny_pyNext_range_end (I.ok.hd hc) st (by have : n ≤ i := hg; omega) fun h' eb => ⟨rfl, I.turned (t' := s.toks) (fun b o hb e => eb b o hb e) f0 f1 f3 f4 f5⟩
  self := fun _ _ _ _ _ st h => wpAny_pyIter_rangeiter st h
end L2
namespace L2
open PySem PySem.Spec PyProof.Rows
section
variable {X : Cx} {tg : Expr}
def iList (K : PySem.W.Frag) (tl : TE) : TI := fun σ H R => tl σ H fun x H1 => ∃ a, x = .ref a ∧ (∃ xs, SqL K H1 a xs) ∧ R (Itl K a) H1
theorem pi_list {l : Expr} {tl : TE} (hl : PE X l tl) : PI X tg l (iList X.K tl) := by
  intro pins s σ H R I h
  refine thn (hl pins s σ H _ I h) fun v s1 ⟨x, H1, I1, r1, q1⟩ => ?_
  obtain ⟨a, e, ⟨xs, hq⟩, q⟩ := q1
  subst e
  cases r1
  obtain ⟨its, rv, p, hz⟩ := I1.list hq
  refine wpAny_pyIter_list p.isList ?_
  refine ⟨s1.heap.objs.size, [s1.heap.objs.size], _, _, H1, rfl, I1.kept (t' := s1.toks) fun b o e => Heap.get?_push_of_some _ e, turn_list a _, ⟨_, Heap.get?_push_size _ rfl, rfl, rfl⟩, fun b hb => ?_, q⟩
  have e : b = s1.heap.objs.size := by simpa using hb
  subst e
  exact I1.fpOk (Nat.le_refl _) (I1.hok.fresh (Nat.le_refl _))
/-- a range object just made, walked -/
theorem range_it {pins : List (Addr × Obj)} {σ : St} {H : Hp} {s : Shared} {R : It → Hp → Prop} {E : Value → Shared → Prop} {lo hi : Int} {t u v : Tok} {tk : Nat} (I : Inv X pins σ H s) (h1 : -(2 ^ 62) ≤ lo) (h2 : lo < 2 ^ 62) (h3 : -(2 ^ 62) ≤ hi) (h4 : hi < 2 ^ 62)
    (q : R (Itr lo (hi - lo).toNat) H) : wpAny (model X.prog X.w) X.A (pyIter (.ref s.heap.objs.size)) (PIE X pins σ tg R) E { s with heap := s.heap.push { cls := .type "range", data := .fields #[.int lo t, .int hi u, .int 1 v] }, toks := tk } := by
  refine wpAny_pyIter_range (IsRange.new ..) (small_one h1 h2 h3 h4) ?_
  have I1 : Inv X pins σ H { s with heap := s.heap.push { cls := .type "range", data := .fields #[.int lo t, .int hi u, .int 1 v] }, toks := tk } := I.kept fun b o e => Heap.get?_push_of_some _ e
  refine ⟨(s.heap.push { cls := .type "range", data := .fields #[.int lo t, .int hi u, .int 1 v] }).objs.size, [(s.heap.push { cls := .type "range", data := .fields #[.int lo t, .int hi u, .int 1 v] }).objs.size], _, _, H, rfl,
    I1.kept (t' := tk) fun b o e => Heap.get?_push_of_some _ e, turn_range _ lo (hi - lo).toNat, ?_, fun b hb => ?_, q⟩
  · have e1 : lo + ((0 : Nat) : Int) * 1 = lo := by simp
    have e2 : (((hi - lo).toNat : Nat) : Int) - ((0 : Nat) : Int) = Builtin.Range.rangeSize lo hi 1 := by rw [rangeSize_one]; split <;> omega
    show IsRangeIter _ _ (lo + ((0 : Nat) : Int) * 1) ((((hi - lo).toNat : Nat) : Int) - ((0 : Nat) : Int)) 1
    rw [e1, e2]
    exact Heap.get?_push_size _ rfl
  · have e : b = (s.heap.push { cls := .type "range", data := .fields #[.int lo t, .int hi u, .int 1 v] }).objs.size := by simpa using hb
    subst e
    exact I1.fpOk (Nat.le_refl _) (I1.hok.fresh (Nat.le_refl _))
def iRng1 (ta : TA) : TI := fun σ H R => ta σ H fun vs H1 => ∃ j : Int, vs = [.int j] ∧ -(2 ^ 62) ≤ j ∧ j < 2 ^ 62 ∧ R (Itr 0 j.toNat) H1
theorem pi_range1 {a : Expr} {ta : TA} {p pos : Pos} (hg : Gl X "range") (hm : X.mg "range" = none) (ha : PA X [a] ta) (hs : starEach [a] X.env = [(false, eval a X.env)] := by rfl) : PI X tg (.Call (.Name "range" p) [a] [] pos) (iRng1 ta) := by
  intro pins s σ H R I h
  refine Call_ (ld_blt I hg hm boot_range (PyProof.Rows.callWith_type1 (thn (ha pos pins s σ H _ I h) fun us s1 ⟨vs, H1, I1, r1, q1⟩ => ?_) hs rfl))
  obtain ⟨j, e, q1, q2, q⟩ := q1
  subst e
  cases r1 with
  | cons r rr =>
    cases rr
    obtain ⟨t, rfl⟩ := r
    exact call_range_1 (range_it I1 (by omega) (by omega) q1 q2 (by simpa using q))
/-! ### for -/
/-- W: the invariant by the turn and a measure; N: what the body is to reach -/
def tFor (wi : TI) (g : TG) (tb : TS) : TS := fun D σ H => wi σ H fun J H1 => ∃ W : Nat → Nat → St → Hp → Prop, (∃ m, W 0 m σ H1) ∧ ∀ i m σ H, W i m σ H →
  (J.stop i H ∧ D.nx σ H) ∨ (J.go i H ∧ ∃ N : St → Hp → Prop, (∀ σ' H', N σ' H' → ∃ m', m' < m ∧ W (i + 1) m' σ' H') ∧ ∀ x H', J.yld i H x H' → g x σ H' fun σ2 H2 => tb { D with nx := N, ct := N, bk := D.nx } σ2 H2)
/-- the records at fp as they stand -/
def pinsAt (fp : List Addr) (h : Heap) : List (Addr × Obj) := fp.filterMap fun b => (h.get? b).map fun o => (b, o)
theorem mem_pinsAt {fp : List Addr} {h : Heap} {b : Addr} {o : Obj} (hb : b ∈ fp) (e : h.get? b = some o) : (b, o) ∈ pinsAt fp h := List.mem_filterMap.mpr ⟨b, hb, by rw [e]; rfl⟩
theorem of_pinsAt {fp : List Addr} {h : Heap} {p : Addr × Obj} (hp : p ∈ pinsAt fp h) : p.1 ∈ fp ∧ h.get? p.1 = some p.2 := by
  obtain ⟨b, hb, e⟩ := List.mem_filterMap.mp hp
  cases q : h.get? b with
  | none => rw [q] at e; cases e
  | some o =>
    rw [q] at e
    have e' : (b, o) = p := Option.some.inj e
    subst e'
    exact ⟨hb, q⟩
theorem Inv.pinned {pins : List (Addr × Obj)} {σ : St} {H : Hp} {s : Shared} {fp : List Addr} (I : Inv X pins σ H s) (hf : ∀ b ∈ fp, FpOk X pins H b) (ho : ∀ b ∈ fp, ∃ o, s.heap.get? b = some o ∧ ∀ v, o.data ≠ .cell v) : Inv X (pins ++ pinsAt fp s.heap) σ H s :=
  I.pins_of fun p hp => (List.mem_append.mp hp).elim (fun z => I.pin p (List.mem_append_right _ z)) fun z => by
    obtain ⟨hb, e⟩ := of_pinsAt z
    obtain ⟨f0, f1, f2, _⟩ := hf p.1 hb
    obtain ⟨o, e', d⟩ := ho p.1 hb
    rw [e] at e'; cases e'
    exact ⟨e, f0, f1, f2, d⟩
theorem Inv.unpinned {pins pl : List (Addr × Obj)} {σ : St} {H : Hp} {s : Shared} (I : Inv X (pins ++ pl) σ H s) : Inv X pins σ H s := I.pins_of fun p hp => I.pin p (List.mem_append_right _ (List.mem_append_left _ hp))
theorem ps_for {iter : Expr} {body : List Stmt} {wi : TI} {g : TG} {tb : TS} {pos : Pos} (hp : PassesOwn (model X.prog X.w) X.A X.env X.xe) (hc : X.calm = true) (hi : PI X tg iter wi) (hg : PG X tg g) (hb : PSs X body tb)
    (hs : ∀ x, foldedSetIterable iter X.env x = pure x := by intro _; rfl) : PS X (.For tg iter body [] pos) (tFor wi g tb) := by
  intro pins s σ H D I h
  refine wpAny_For (thn (hi pins s σ H _ I h) fun v s1 h1 => thn h1 fun itv s2 h2 => ?_) hs
  obtain ⟨it, fp, tn, J, H2, e, I2, T, st2, f2, W, ⟨m0, w0⟩, turn⟩ := h2
  subst e
  -- what stays true of the iterator's objects through the loop
  have stat : ∀ {H' : Hp}, (∀ b ∈ fp, H' b = none) → ∀ b ∈ fp, FpOk X pins H' b := fun hn b hb => ⟨hn b hb, (f2 b hb).2⟩
  refine codeAny_forLoop_any (fun n s' => ∃ i σ' H', Inv X pins σ' H' s' ∧ tn i s'.heap ∧ (∀ b ∈ fp, H' b = none) ∧ W i n σ' H') ?_ m0 ⟨0, σ, H2, I2, st2, fun b hb => (f2 b hb).1, w0⟩
  rintro n s3 ⟨i, σ3, H3, I3, st3, fr3, w3⟩
  rcases turn i n σ3 H3 w3 with ⟨stop, qn⟩ | ⟨go, N, hN, step⟩
  · refine wpAny_passesOwn hp (thn (T.done X rfl rfl rfl hc i pins s3 σ3 H3 X.xe I3 (stat fr3) st3 stop) fun r s4 ⟨hr, I4⟩ => ?_)
    subst hr
    exact wpAny_execs_nil ⟨σ3, H3, I4, qn⟩
  · refine wpAny_passesOwn hp (thn (T.item X rfl rfl rfl hc i pins s3 σ3 H3 X.xe I3 (stat fr3) st3 go) fun r s4 ⟨u, hr, h4⟩ => ?_)
    subst hr
    refine wpAny_passesOwn hp (thn h4 fun _ s5 ⟨x, H5, I5, r5, y5, st5, fr5⟩ => ?_)
    have I5' := I5.pinned (stat fr5) (T.obj _ _ st5)
    refine wpAny_passesOwn hp (thn (hg _ s5 σ3 H5 x u _ I5' r5 (step x H5 y5)) fun _ s6 ⟨σ6, H6, I6, q6⟩ => ?_)
    refine wpAny_passesOwn hp (thn (hb _ s6 σ6 H6 _ I6 q6) fun f s7 q7 => ?_)
    have again : ∀ {σ7 : St} {H7 : Hp}, Inv X (pins ++ pinsAt fp s5.heap) σ7 H7 s7 → N σ7 H7 → ∃ m, m < n ∧ ∃ i σ' H', Inv X pins σ' H' s7 ∧ tn i s7.heap ∧ (∀ b ∈ fp, H' b = none) ∧ W i m σ' H' := fun {σ7 H7} I7 n7 => by
      obtain ⟨m', hm, w7⟩ := hN σ7 H7 n7
      refine ⟨m', hm, i + 1, σ7, H7, I7.unpinned, T.keep _ _ _ st5 fun b hb o e => (I7.pin (b, o) (List.mem_append_right _ (List.mem_append_right _ (mem_pinsAt hb e)))).1, fun b hb => ?_, w7⟩
      obtain ⟨o, e, d⟩ := T.obj _ _ st5 b hb
      exact (I7.pin (b, o) (List.mem_append_right _ (List.mem_append_right _ (mem_pinsAt hb e)))).2.1
    cases f with
    | next => obtain ⟨σ7, H7, I7, n7⟩ := q7; exact again I7 n7
    | cont => obtain ⟨σ7, H7, I7, n7⟩ := q7; exact again I7 n7
    | brk => obtain ⟨σ7, H7, I7, q7⟩ := q7; exact ⟨σ7, H7, I7.unpinned, q7⟩
    | ret v => obtain ⟨x7, σ7, H7, I7, r7, q7⟩ := q7; exact ⟨x7, σ7, H7, I7.unpinned, r7, q7⟩
end
/-! ### the forms one uses -/
/-- over a list that the body leaves as it is -/
theorem for_list {K : PySem.W.Frag} {a : Addr} {xs : List V} {g : TG} {tb : TS} {D : Ends} {σ : St} {H : Hp} (Pv : Nat → St → Hp → Prop) (h0 : Pv 0 σ H) (hl : ∀ i σ H, i ≤ xs.length → Pv i σ H → SqL K H a xs)
    (hs : ∀ i x σ H, xs[i]? = some x → Pv i σ H → g x σ H fun σ2 H2 => tb { D with nx := Pv (i + 1), ct := Pv (i + 1), bk := D.nx } σ2 H2) (hd : ∀ σ H, Pv xs.length σ H → D.nx σ H) :
    ∃ W : Nat → Nat → St → Hp → Prop, (∃ m, W 0 m σ H) ∧ ∀ i m σ H, W i m σ H →
      ((Itl K a).stop i H ∧ D.nx σ H) ∨ ((Itl K a).go i H ∧ ∃ N : St → Hp → Prop, (∀ σ' H', N σ' H' → ∃ m', m' < m ∧ W (i + 1) m' σ' H') ∧ ∀ x H', (Itl K a).yld i H x H' → g x σ H' fun σ2 H2 => tb { D with nx := N, ct := N, bk := D.nx } σ2 H2) := by
  refine ⟨fun i m σ H => m = xs.length - i ∧ i ≤ xs.length ∧ Pv i σ H, ⟨xs.length, by simp, Nat.zero_le _, h0⟩, ?_⟩
  rintro i m σ H ⟨rfl, hi, p⟩
  have q := hl i σ H hi p
  by_cases hlt : i < xs.length
  · refine .inr ⟨⟨xs, xs[i], q, by simp [hlt]⟩, Pv (i + 1), fun σ' H' p' => ⟨xs.length - (i + 1), by omega, rfl, hlt, p'⟩, fun x H' y => ?_⟩
    obtain ⟨e, y⟩ := y
    subst e
    exact hs i x σ _ (y xs q) p
  · have e : i = xs.length := by omega
    subst e
    exact .inl ⟨⟨xs, q, Nat.le_refl _⟩, hd σ H p⟩
end L2
namespace L2
open PySem PySem.Spec PyProof.Rows
abbrev R2 := V → V → Hp → VK → Prop
/-- a two-place operation on values: f is binaryOp op, inplaceOp op or compareOp op -/
def OpR (X : Cx) (f : Value → Value → Sem Value) (r : R2) : Prop :=
  ∀ (pins : List (Addr × Obj)) (s : Shared) (σ : St) (H : Hp) (x y : V) (v u : Value) (Q : VK), Inv X pins σ H s → RelV x v → RelV y u → r x y H Q →
    wpAny (model X.prog X.w) X.A (f v u) (EP X pins σ Q) X.xe s
/-- a one-place operation -/
def UnR (X : Cx) (f : Value → Sem Value) (r : V → Hp → VK → Prop) : Prop :=
  ∀ (pins : List (Addr × Obj)) (s : Shared) (σ : St) (H : Hp) (x : V) (v : Value) (Q : VK), Inv X pins σ H s → RelV x v → r x H Q →
    wpAny (model X.prog X.w) X.A (f v) (EP X pins σ Q) X.xe s
/-- a call of a value that is known (a builtin, a type) with values -/
def CallR (X : Cx) (f : Value) (r : List V → Hp → VK → Prop) : Prop :=
  ∀ (pins : List (Addr × Obj)) (s : Shared) (σ : St) (H : Hp) (xs : List V) (us : List Value) (Q : VK), Inv X pins σ H s → Vals xs us → r xs H Q →
    wpAny (model X.prog X.w) X.A (call f us) (EP X pins σ Q) X.xe s
def tOp (r : R2) (ta tb : TE) : TE := fun σ H Q => ta σ H fun x H1 => tb σ H1 fun y H2 => r x y H2 Q
def tUn (r : V → Hp → VK → Prop) (ta : TE) : TE := fun σ H Q => ta σ H fun x H1 => r x H1 Q
def rI0 (g : Int → Int → V) : R2 := fun x y H Q => ∃ i j, x = .int i ∧ y = .int j ∧ Q (g i j) H
def rU (g : Int → V) : V → Hp → VK → Prop := fun x H Q => ∃ i, x = .int i ∧ Q (g i) H
section
variable {X : Cx} {a b c : Expr} {ta tb tc : TE} {pos : Pos}
theorem binT (ha : PE X a ta) (hb : PE X b tb) {pins : List (Addr × Obj)} {s : Shared} {σ : St} {H : Hp} {R : V → V → Hp → Prop} (I : Inv X pins σ H s)
    (h : ta σ H fun x H1 => tb σ H1 fun y H2 => R x y H2) {Q : Value → Shared → Prop} {f : Value → Value → Sem Value}
    (hf : ∀ v u s2 x y H2, Inv X pins σ H2 s2 → RelV x v → RelV y u → R x y H2 → wpAny (model X.prog X.w) X.A (f v u) Q X.xe s2) :
    wpAny (model X.prog X.w) X.A (eval a X.env) (fun v s₁ => wpAny (model X.prog X.w) X.A (eval b X.env) (fun u s₂ => wpAny (model X.prog X.w) X.A (f v u) Q X.xe s₂) X.xe s₁) X.xe s := by
  refine thn (ha pins s σ H _ I h) fun v s1 ⟨x, H1, I1, r1, q1⟩ => ?_
  refine thn (hb pins s1 σ H1 _ I1 q1) fun u s2 ⟨y, H2, I2, r2, q2⟩ => ?_
  exact hf v u s2 x y H2 I2 r1 r2 q2
theorem pe_op {op : Operator} {r : R2} (ho : OpR X (binaryOp op) r) (ha : PE X a ta) (hb : PE X b tb) : PE X (.BinOp a op b pos) (tOp r ta tb) := by
  intro pins s σ H Q I h
  exact wpAny_BinOp (binT ha hb I h fun v u s2 x y H2 I2 rx ry q => ho pins s2 σ H2 x y v u Q I2 rx ry q)
theorem pe_un {op : UnaryOp} {r : V → Hp → VK → Prop} (ho : UnR X (unaryOp op) r) (ha : PE X a ta) : PE X (.UnaryOp op a pos) (tUn r ta) := by
  intro pins s σ H Q I h
  exact UnaryOp_ (thn (ha pins s σ H _ I h) fun v s1 ⟨x, H1, I1, r1, q1⟩ => ho pins s1 σ H1 x v Q I1 r1 q1)
/-! ### ints -/
theorem opI0 {f : Value → Value → Sem Value} {g : Int → Int → Int}
    (rule : ∀ (i j : Int) (t u : Tok) (s : Shared) (Q : Value → Shared → Prop) (E : Value → Shared → Prop), Q (.int (g i j) s.toks) { s with toks := s.toks + 1 } → wpAny (model X.prog X.w) X.A (f (.int i t) (.int j u)) Q E s) :
    OpR X f (rI0 fun i j => .int (g i j)) := by
  intro pins s σ H x y v u Q I rx ry h
  obtain ⟨i, j, rfl, rfl, q⟩ := h
  obtain ⟨t, rfl⟩ := rx
  obtain ⟨t', rfl⟩ := ry
  exact rule i j t t' s _ _ ⟨.int (g i j), H, I.tok _, ⟨_, rfl⟩, q⟩
theorem opB0 {f : Value → Value → Sem Value} {g : Int → Int → Bool}
    (rule : ∀ (i j : Int) (t u : Tok) (s : Shared) (Q : Value → Shared → Prop) (E : Value → Shared → Prop), Q (.bool (g i j)) s → wpAny (model X.prog X.w) X.A (f (.int i t) (.int j u)) Q E s) :
    OpR X f (rI0 fun i j => .bl (g i j)) := by
  intro pins s σ H x y v u Q I rx ry h
  obtain ⟨i, j, rfl, rfl, q⟩ := h
  obtain ⟨t, rfl⟩ := rx
  obtain ⟨t', rfl⟩ := ry
  exact rule i j t t' s _ _ ⟨.bl (g i j), H, I, rfl, q⟩
theorem op_add : OpR X (binaryOp .Add) (rI0 fun i j => .int (i + j)) := opI0 fun _ _ _ _ _ _ _ q => add_int q
theorem op_sub : OpR X (binaryOp .Sub) (rI0 fun i j => .int (i - j)) := opI0 fun _ _ _ _ _ _ _ q => sub_int q
theorem unI {f : Value → Sem Value} {g : Int → Int}
    (rule : ∀ (i : Int) (t : Tok) (s : Shared) (Q : Value → Shared → Prop) (E : Value → Shared → Prop), Q (.int (g i) s.toks) { s with toks := s.toks + 1 } → wpAny (model X.prog X.w) X.A (f (.int i t)) Q E s) :
    UnR X f (rU fun i => .int (g i)) := by
  intro pins s σ H x v Q I rx h
  obtain ⟨i, rfl, q⟩ := h
  obtain ⟨t, rfl⟩ := rx
  exact rule i t s _ _ ⟨.int (g i), H, I.tok _, ⟨_, rfl⟩, q⟩
theorem un_neg : UnR X (unaryOp .USub) (rU fun i => .int (-i)) := unI fun _ _ _ _ _ q => neg_int q
/-! ### bools among ints: n += (a < b) -/
end
/-! ### comparisons -/
/-- the scalars that == tells apart as data does -/
def scal : V → V → Bool
  | .non, .non => true | .non, .int _ => true | .int _, .non => true | .non, .bl _ => true | .bl _, .non => true | .non, .str _ => true | .str _, .non => true
  | .int _, .int _ => true | .bl _, .bl _ => true | .str _, .str _ => true | .byt _, .byt _ => true
  | .int _, .str _ => true | .str _, .int _ => true | .bl _, .str _ => true | .str _, .bl _ => true
  | _, _ => false
def rEq : R2 := fun x y H Q => scal x y = true ∧ Q (.bl (decide (x = y))) H
def rNe : R2 := fun x y H Q => scal x y = true ∧ Q (.bl (!decide (x = y))) H
theorem dec_int {i j : Int} : decide (V.int i = V.int j) = (i == j) := by
  rw [Bool.eq_iff_iff]
  simp
theorem dec_bl {i j : Bool} : decide (V.bl i = V.bl j) = (i == j) := by
  rw [Bool.eq_iff_iff]
  simp
theorem dec_str {i j : Str} : decide (V.str i = V.str j) = (i == j) := by
  rw [Bool.eq_iff_iff]
  simp
theorem dec_byt {i j : Array UInt8} : decide (V.byt i = V.byt j) = (i.toList == j.toList) := by
  rw [Bool.eq_iff_iff]
  cases i
  cases j
  simp
section
variable {X : Cx} {a b c : Expr} {ta tb tc : TE} {pos : Pos}
theorem fin_bl {pins : List (Addr × Obj)} {σ : St} {H : Hp} {s : Shared} {Q : VK} {k k' : Bool} (I : Inv X pins σ H s) (q : Q (.bl k) H) (e : k = k') : EP X pins σ Q (.bool k') s := by
  subst e
  exact ⟨.bl k, H, I, rfl, q⟩
theorem op_eq : OpR X (compareOp .Eq) rEq := by
  intro pins s σ H x y v u Q I rx ry h
  obtain ⟨hs, q⟩ := h
  cases x with
  | non =>
    cases rx
    cases y with
    | non => cases ry; exact PySem.EqNone.eq_none_none (fin_bl I q (by simp))
    | bl j => cases ry; exact PySem.EqNone.eq_none_bool (fin_bl I q (by simp))
    | int j => obtain ⟨t', rfl⟩ := ry; exact PySem.EqNone.eq_none_int (fin_bl I q (by simp))
    | str j => obtain ⟨t', rfl⟩ := ry; exact PySem.EqNone.eq_none_str (fin_bl I q (by simp))
    | _ => exact absurd (show false = true from hs) Bool.false_ne_true
  | bl i =>
    cases rx
    cases y with
    | non => cases ry; exact PySem.EqNone.eq_bool_none (fin_bl I q (by simp))
    | bl j => cases ry; exact eq_bool (fin_bl I q dec_bl)
    | str j => obtain ⟨t', rfl⟩ := ry; exact PySem.EqMixed.eq_bool_str (fin_bl I q (by simp))
    | _ => exact absurd (show false = true from hs) Bool.false_ne_true
  | int i =>
    obtain ⟨t, rfl⟩ := rx
    cases y with
    | non => cases ry; exact PySem.EqNone.eq_int_none (fin_bl I q (by simp))
    | int j => obtain ⟨t', rfl⟩ := ry; exact eq_int (fin_bl I q dec_int)
    | str j => obtain ⟨t', rfl⟩ := ry; exact PySem.EqMixed.eq_int_str (fin_bl I q (by simp))
    | _ => exact absurd (show false = true from hs) Bool.false_ne_true
  | str i =>
    obtain ⟨t, rfl⟩ := rx
    cases y with
    | non => cases ry; exact PySem.EqNone.eq_str_none (fin_bl I q (by simp))
    | bl j => cases ry; exact PySem.EqMixed.eq_str_bool (fin_bl I q (by simp))
    | int j => obtain ⟨t', rfl⟩ := ry; exact PySem.EqMixed.eq_str_int (fin_bl I q (by simp))
    | str j => obtain ⟨t', rfl⟩ := ry; exact eq_str (fin_bl I q dec_str)
    | _ => exact absurd (show false = true from hs) Bool.false_ne_true
  | byt i =>
    obtain ⟨t, rfl⟩ := rx
    cases y with
    | byt j => obtain ⟨t', rfl⟩ := ry; exact PySem.W.eq_bytes (fin_bl I q dec_byt)
    | _ => exact absurd (show false = true from hs) Bool.false_ne_true
  | _ => cases y <;> exact absurd (show false = true from hs) Bool.false_ne_true
theorem op_ne : OpR X (compareOp .NotEq) rNe := by
  intro pins s σ H x y v u Q I rx ry h
  obtain ⟨hs, q⟩ := h
  cases x with
  | non =>
    cases rx
    cases y with
    | non => cases ry; exact PySem.EqNone.ne_none_none (fin_bl I q (by simp))
    | bl j => cases ry; exact PySem.EqNone.ne_none_bool (fin_bl I q (by simp))
    | int j => obtain ⟨t', rfl⟩ := ry; exact PySem.EqNone.ne_none_int (fin_bl I q (by simp))
    | str j => obtain ⟨t', rfl⟩ := ry; exact PySem.EqNone.ne_none_str (fin_bl I q (by simp))
    | _ => exact absurd (show false = true from hs) Bool.false_ne_true
  | bl i =>
    cases rx
    cases y with
    | non => cases ry; exact PySem.EqNone.ne_bool_none (fin_bl I q (by simp))
    | bl j => cases ry; exact ne_bool (fin_bl I q (congrArg not dec_bl))
    | str j => obtain ⟨t', rfl⟩ := ry; exact PySem.EqMixed.ne_bool_str (fin_bl I q (by simp))
    | _ => exact absurd (show false = true from hs) Bool.false_ne_true
  | int i =>
    obtain ⟨t, rfl⟩ := rx
    cases y with
    | non => cases ry; exact PySem.EqNone.ne_int_none (fin_bl I q (by simp))
    | int j => obtain ⟨t', rfl⟩ := ry; exact ne_int (fin_bl I q (congrArg not dec_int))
    | str j => obtain ⟨t', rfl⟩ := ry; exact PySem.EqMixed.ne_int_str (fin_bl I q (by simp))
    | _ => exact absurd (show false = true from hs) Bool.false_ne_true
  | str i =>
    obtain ⟨t, rfl⟩ := rx
    cases y with
    | non => cases ry; exact PySem.EqNone.ne_str_none (fin_bl I q (by simp))
    | bl j => cases ry; exact PySem.EqMixed.ne_str_bool (fin_bl I q (by simp))
    | int j => obtain ⟨t', rfl⟩ := ry; exact PySem.EqMixed.ne_str_int (fin_bl I q (by simp))
    | str j => obtain ⟨t', rfl⟩ := ry; exact ne_str (fin_bl I q (congrArg not dec_str))
    | _ => exact absurd (show false = true from hs) Bool.false_ne_true
  | byt i =>
    obtain ⟨t, rfl⟩ := rx
    cases y with
    | byt j => obtain ⟨t', rfl⟩ := ry; exact PySem.W.ne_bytes (fin_bl I q (congrArg not dec_byt))
    | _ => exact absurd (show false = true from hs) Bool.false_ne_true
  | _ => cases y <;> exact absurd (show false = true from hs) Bool.false_ne_true
theorem op_lt : OpR X (compareOp .Lt) (rI0 fun i j => .bl (decide (i < j))) := opB0 fun _ _ _ _ _ _ _ q => lt_int q
theorem op_le : OpR X (compareOp .LtE) (rI0 fun i j => .bl (decide (i ≤ j))) := opB0 fun _ _ _ _ _ _ _ q => le_int q
theorem nomark (b : Expr) {op : CmpOp} (h : op ≠ .In := by decide) (h2 : op ≠ .NotIn := by decide) : behindInMarks op b = false := by
  have e1 : (op == CmpOp.In) = false := by cases op <;> first | rfl | exact absurd rfl h
  have e2 : (op == CmpOp.NotIn) = false := by cases op <;> first | rfl | exact absurd rfl h2
  cases b <;> simp [behindInMarks, e1, e2]
/-- a comparison as a value; hm: nomark b, or (for in, not in) by with_unfolding_all rfl -/
theorem pe_cmpR {op : CmpOp} {r : R2} (ho : OpR X (compareOp op) r) (ha : PE X a ta) (hb : PE X b tb) (hm : behindInMarks op b = false) : PE X (.Compare a [op] [b] pos) (tOp r ta tb) := by
  intro pins s σ H Q I h
  exact wpAny_Compare1 (binT ha hb I h fun v u s2 x y H2 I2 rx ry q => ho pins s2 σ H2 x y v u Q I2 rx ry q) hm
/-- a reading of a value as a test -/
def tTest (t : TE) : TT := fun σ H Q => t σ H fun x H' => ∃ k, x = .bl k ∧ Q k H'
theorem pt_cmpR {op : CmpOp} {r : R2} (ho : OpR X (compareOp op) r) (ha : PE X a ta) (hb : PE X b tb) (hm : behindInMarks op b = false) : PT X (.Compare a [op] [b] pos) (tTest (tOp r ta tb)) := by
  intro pins s σ H Q I h
  refine wpAny_isTrue_Compare1 (thn (ha pins s σ H _ I h) fun v s1 ⟨x, H1, I1, r1, q1⟩ => thn (hb pins s1 σ H1 _ I1 q1) fun u s2 ⟨y, H2, I2, r2, q2⟩ =>
    thn (ho pins s2 σ H2 x y v u _ I2 r1 r2 q2) fun c s3 ⟨z, H3, I3, r3, k, e, q3⟩ => ?_) hm
  subst e
  cases r3
  exact wpAny_truthy_bool ⟨H3, I3, q3⟩
/-- a op1 b op2 c -/
def tChain (r r' : R2) (ta tb tc : TE) : TE := fun σ H Q => ta σ H fun x H1 => tb σ H1 fun y H2 => r x y H2 fun z H3 => ∃ k, z = .bl k ∧
  (if k = true then tc σ H3 fun w' H4 => r' y w' H4 Q else Q (.bl false) H3)
theorem pt_chain {op op' : CmpOp} {r r' : R2} (ho : OpR X (compareOp op) r) (ho' : OpR X (compareOp op') r') (ha : PE X a ta) (hb : PE X b tb) (hc : PE X c tc)
    (hm : lastMarks [op, op'] [b, c] = false := by with_unfolding_all rfl) : PT X (.Compare a [op, op'] [b, c] pos) (tTest (tChain r r' ta tb tc)) := by
  intro pins s σ H Q I h
  refine isTrue_chain (thn (ha pins s σ H _ I h) fun v s1 ⟨x, H1, I1, r1, q1⟩ => test_link (thn (hb pins s1 σ H1 _ I1 q1) fun u s2 ⟨y, H2, I2, r2, q2⟩ =>
    thn (ho pins s2 σ H2 x y v u _ I2 r1 r2 q2) fun d s3 ⟨z, H3, I3, r3, k, e, q3⟩ => ?_)) hm
  subst e
  cases r3
  refine wpAny_truthy_bool ?_
  cases k with
  | false =>
    obtain ⟨k', e', q'⟩ := q3
    cases e'
    exact ite_ff ⟨H3, I3, q'⟩
  | true =>
    refine ite_tt (test_last (thn (hc pins s3 σ H3 _ I3 q3) fun w' s4 ⟨z', H4, I4, r4, q4⟩ => thn (ho' pins s4 σ H4 y z' u w' _ I4 r2 r4 q4) fun d' s5 ⟨z2, H5, I5, r5, k2, e2, q5⟩ => ?_))
    subst e2
    cases r5
    exact wpAny_truthy_bool ⟨H5, I5, q5⟩
/-! ### truth -/
theorem line63 : (sizeLine : Nat) < 2 ^ 63 := by rw [sizeLine_eq]; decide
/-! ### strs and bytes -/
/-! ### scalar builtins, by CallR -/
theorem vals1 {x : V} {us : List Value} (r : Vals [x] us) : ∃ u, us = [u] ∧ RelV x u := by
  cases r with
  | cons r1 r2 => cases r2; exact ⟨_, rfl, r1⟩
theorem vals2 {x y : V} {us : List Value} (r : Vals [x, y] us) : ∃ u w', us = [u, w'] ∧ RelV x u ∧ RelV y w' := by
  cases r with
  | cons r1 r2 =>
    cases r2 with
    | cons r3 r4 => cases r4; exact ⟨_, _, rfl, r1, r3⟩
theorem call_max2 (hc : X.calm = true) : CallR X (.builtin "max") (fun xs H Q => ∃ i j, xs = [.int i, .int j] ∧ Q (.int (if j > i then j else i)) H) := by
  intro pins s σ H xs us Q I r h
  obtain ⟨i, j, rfl, q⟩ := h
  obtain ⟨u, w', rfl, ⟨t, rfl⟩, ⟨t', rfl⟩⟩ := vals2 r
  refine max_two_ints (I.ok.hd hc) fun h' tk k => ⟨_, H, I.kept k, ?_, q⟩
  by_cases hj : j > i
  · rw [if_pos hj, if_pos hj]; exact ⟨_, rfl⟩
  · rw [if_neg hj, if_neg hj]; exact ⟨_, rfl⟩
theorem call_min2 (hc : X.calm = true) : CallR X (.builtin "min") (fun xs H Q => ∃ i j, xs = [.int i, .int j] ∧ Q (.int (if j < i then j else i)) H) := by
  intro pins s σ H xs us Q I r h
  obtain ⟨i, j, rfl, q⟩ := h
  obtain ⟨u, w', rfl, ⟨t, rfl⟩, ⟨t', rfl⟩⟩ := vals2 r
  refine min_two_ints (I.ok.hd hc) fun h' tk k => ⟨_, H, I.kept k, ?_, q⟩
  by_cases hj : j < i
  · rw [if_pos hj, if_pos hj]; exact ⟨_, rfl⟩
  · rw [if_neg hj, if_neg hj]; exact ⟨_, rfl⟩
end
end L2
namespace L2
open PySem PySem.Spec PyProof.Rows
/-! ### an instance, its attributes a map -/
section
variable {prog : Program} {w : World} {A : Around} {E : Value → Shared → Prop} {s : Shared} {K : PySem.W.Frag} {x dx C f : Addr} {mA : Str → Option Value} {name : Str} {v : Value}
end
/-! ### the attributes as a list of pairs -/
section
variable {P : Program} {w : World} {H H' : Hp} {h h' : Heap} {a C dx : Addr} {fs fs' : List (Str × V)}
end
/-! ### what of the text a class must have -/
section
variable {X : Cx} {pins : List (Addr × Obj)} {σ : St} {H : Hp} {s : Shared} {a C dx : Addr} {fs : List (Str × V)} {f : Str} {v : V} {A : Around} {E : Value → Shared → Prop}
end
/-! ### readings and rules -/
section
variable {X : Cx} {o e value : Expr} {f : Str} {pos pos' tpos : Pos} {ta tv : TE}
end
/-! ### isinstance -/
section
variable {X : Cx} {pins : List (Addr × Obj)} {σ : St} {H : Hp} {s : Shared} {A : Around} {E : Value → Shared → Prop} {Q : Value → Shared → Prop} {c : Value} {b : Bool}
end
end L2
namespace L2
open PySem PySem.Spec PyProof.Rows
/-! ### room -/
structure Room (k : Nat) (A : Around) : Prop where
  hd : A.handled = none
  dp : A.depth + 3 * k + 5 < recursionLimit
  un : A.units + 16 * k + 200 < cLine
theorem Room.mono {j k : Nat} {A : Around} (r : Room k A) (h : j ≤ k) : Room j A := ⟨r.hd, by have := r.dp; omega, by have := r.un; omega⟩
theorem Room.deeper {k : Nat} {A : Around} (r : Room (k + 1) A) (env : Env) : Room k (A.deeper env) :=
  ⟨r.hd, by have := r.dp; show A.depth + 1 + 3 * k + 5 < _; omega, by have := r.un; show A.units + 3 + 16 * k + 200 < _; omega⟩
theorem Room.depth {k : Nat} {A : Around} (r : Room k A) : A.depth < recursionLimit := by have := r.dp; omega
/-! ### argument lists and displays -/
def tNil : TA := fun _ H Q => Q [] H
def tCons (ta : TE) (tr : TA) : TA := fun σ H Q => ta σ H fun x H1 => tr σ H1 fun xs H2 => Q (x :: xs) H2
section
variable {X : Cx} {e : Expr} {es : List Expr} {te : TE} {t : TA} {pos : Pos}
theorem pa_nil : PA X [] tNil := fun _ _ _ _ H Q I h => Calls.spliced_nil ⟨[], H, I, .nil, h⟩
theorem pa_cons (ha : PE X e te) (hr : PA X es t) (hs : starEach (e :: es) X.env = (false, eval e X.env) :: starEach es X.env := by rfl) : PA X (e :: es) (tCons te t) := by
  intro pos pins s σ H Q I h
  rw [hs]
  show wpAny _ _ (spliced ((false, eval e X.env) :: backTo pos (starEach es X.env))) _ _ s
  refine Calls.spliced_cons (thn (ha pins s σ H _ I h) fun u s1 ⟨x, H1, I1, r1, q1⟩ => ?_)
  exact thn (hr pos pins s1 σ H1 _ I1 q1) fun us s2 ⟨xs, H2, I2, r2, q2⟩ => ⟨x :: xs, H2, I2, .cons r1 r2, q2⟩
/-- a tuple, a list of written items -/
def tTup (t : TA) : TE := fun σ H Q => t σ H fun xs H1 => xs.length ≤ sizeLine ∧ ∀ p, H1 p = none → Q (.ref p) (upd H1 p (.tup xs))
def tLst (t : TA) : TE := fun σ H Q => t σ H fun xs H1 => xs.length ≤ sizeLine ∧ ∀ p, H1 p = none → Q (.ref p) (upd H1 p (.lst xs))
theorem pe_tup {x1} (h : PA X es t) : PE X (.Tuple es x1 pos) (tTup t) := by
  intro pins s σ H Q I hq
  refine wpAny_Tuple_spliced (thn (h pos pins s σ H _ I hq) fun us s1 ⟨xs, H1, I1, r, z, q⟩ => ⟨by rw [← r.length]; exact z, ?_⟩)
  have hf : H1 s1.heap.objs.size = none := I1.hok.fresh (Nat.le_refl _)
  refine ⟨.ref s1.heap.objs.size, upd H1 s1.heap.objs.size (.tup xs), I1.laid (t' := s1.toks) (fun b u e => Heap.get?_push_of_some _ e) (Nat.le_refl _) ?_, rfl, q _ hf⟩
  exact ⟨z, us, r, ⟨_, Heap.get?_push_size _ rfl, rfl, _, rfl⟩⟩
theorem pe_lst (h : PA X es t) : PE X (.List es pos) (tLst t) := by
  intro pins s σ H Q I hq
  refine wpAny_List_spliced (thn (h pos pins s σ H _ I hq) fun us s1 ⟨xs, H1, I1, r, z, q⟩ => ⟨by rw [← r.length]; exact z, ?_⟩)
  have hf : H1 s1.heap.objs.size = none := I1.hok.fresh (Nat.le_refl _)
  refine ⟨.ref s1.heap.objs.size, upd H1 s1.heap.objs.size (.lst xs), I1.laid (t' := s1.toks) (fun b u e => Heap.get?_push_of_some _ e) (Nat.le_refl _) ?_, rfl, q _ hf⟩
  exact ⟨z, us, 0, r, Heap.get?_push_size _ rfl⟩
end
/-! ### what a def promises -/
/-- a def's promise: the bound arguments in the parameters' order, the heap, the wanted end, the wanted exception -/
abbrev Sp := List V → Hp → VK → XK → Prop
/-- how an exception lies behind a call (file 08 gives it): the callers' frames, abstract heap and state ahead of the call, the wish, the exception, the state -/
abbrev CXT := List Env → Hp → Shared → XK → Value → Shared → Prop
/-- the state at a call -/
structure Env0 (P : Program) (w : World) (K : PySem.W.Frag) (mg : Str → Option Value) (base : Heap) (A : Around) (outer : List Env) (s : Shared) (H : Hp) : Prop where
  frames : A.frames = some outer
  mod : Mod K mg base
  bs : ∀ b o, base.get? b = some o → s.heap.get? b = some o ∧ H b = none
  bsz : base.objs.size ≤ s.heap.objs.size
  funs : s.heap.FunFrames base outer
  frf : ∀ b ∈ frs outer, H b = none
  hok : HOk P w H s.heap
  bare : AllBare s.gens
/-- a call's end -/
def CE (outer : List Env) (P : Program) (w : World) (H : Hp) (s : Shared) (Q : VK) (u : Value) (s' : Shared) : Prop :=
  ∃ v H', s'.os = s.os ∧ AllBare s'.gens ∧ Un (frs outer) [] H H' s.heap s'.heap ∧ HOk P w H' s'.heap ∧ RelV v u ∧ Q v H'
def CR (CX : CXT) (outer : List Env) (P : Program) (w : World) (H : Hp) (s : Shared) (Q : VK) (E : XK) (r : Result) (s' : Shared) : Prop :=
  match r with
  | .ok (.ret u) => CE outer P w H s Q u s'
  | .ok _ => False
  | .error e => CX outer H s E e s'
structure FnOk (P : Program) (w : World) (K : PySem.W.Frag) (mg : Str → Option Value) (base : Heap) (CX : CXT) (k : Nat) (f : Addr) (fd : FuncData) (ps : List Str) (sp : Sp) : Prop where
  len : ∀ vs H Q E, sp vs H Q E → vs.length = ps.length
  run : ∀ (A : Around) (outer : List Env) (s : Shared) (H : Hp) (args : Args) (us : List Value) (vs : List V) (Q : VK) (E : XK), Room k A → Env0 P w K mg base A outer s H → BindsTo s fd args (ps.zip us) → Vals vs us → sp vs H Q E →
    codeAny (model P w) A (.call (.ref f) args) (CR CX outer P w H s Q E) s
theorem FnOk.mono {P : Program} {w : World} {K : PySem.W.Frag} {mg : Str → Option Value} {base : Heap} {CX : CXT} {j k : Nat} {f : Addr} {fd : FuncData} {ps : List Str} {sp : Sp} (F : FnOk P w K mg base CX j f fd ps sp) (h : j ≤ k) :
    FnOk P w K mg base CX k f fd ps sp := ⟨F.len, fun A outer s H args us vs Q E hr => F.run A outer s H args us vs Q E (hr.mono h)⟩
/-- a weaker promise -/
theorem FnOk.imp {P : Program} {w : World} {K : PySem.W.Frag} {mg : Str → Option Value} {base : Heap} {CX : CXT} {k : Nat} {f : Addr} {fd : FuncData} {ps : List Str} {sp sp' : Sp} (F : FnOk P w K mg base CX k f fd ps sp)
    (h : ∀ vs H Q E, sp' vs H Q E → sp vs H Q E) : FnOk P w K mg base CX k f fd ps sp' :=
  ⟨fun vs H Q E q => F.len vs H Q E (h _ _ _ _ q), fun A outer s H args us vs Q E hr he hb hv hs => F.run A outer s H args us vs Q E hr he hb hv (h _ _ _ _ hs)⟩
section
variable {X : Cx} {pins : List (Addr × Obj)} {σ : St} {H : Hp} {s s' : Shared}
/-- from a body: what a callee wants -/
theorem Inv.env0 (I : Inv X pins σ H s) : Env0 X.prog X.w X.K X.mg X.base X.A X.stack s H :=
  ⟨I.ok.frames, I.ok.mod, I.bs, Nat.le_trans I.ok.bsz I.sz, I.stack, I.stkFree, I.hok, I.bare⟩
/-- behind a call -/
theorem Inv.after {Q : VK} {u : Value} (I : Inv X pins σ H s) (h : CE X.stack X.prog X.w H s Q u s') : EP X pins σ Q u s' := by
  obtain ⟨v, H', os, bare, un, hok, r, q⟩ := h
  obtain ⟨hh, g, d, t, os'⟩ := s'
  obtain rfl : os' = s.os := os
  exact ⟨v, H', I.call (h' := hh) (g' := g) (d' := d) (t' := t) (ch := []) un hok bare (fun b z => absurd z (by simp)), r, q⟩
end
/-! ### calls -/
/-- f(..): the written arguments, then the defaults dvs; E: what is wanted of an exception -/
def tCall (sp : Sp) (dvs : List V) (E : XK) (t : TA) : TE := fun σ H Q => t σ H fun vs H1 => sp (vs ++ dvs) H1 Q E
/-- how the parameters are bound: us the positional arguments, kw the keywords' values by name, ds the defaults that fill up -/
def Binds (K : PySem.W.Frag) (fd : FuncData) (ps : List Str) (ds : List Value) : Prop :=
  ∀ (s : Shared) (us : List Value), K.In s.heap → (us ++ ds).length = ps.length → BindsTo s fd ⟨us, []⟩ (ps.zip (us ++ ds))
/-- every parameter is given -/
theorem Binds.all {K : PySem.W.Frag} {fd : FuncData} {ps : List Str} (h : ∀ us : List Value, us.length = ps.length → bindArgs fd ⟨us, []⟩ = pure (ps.zip us)) : Binds K fd ps [] := fun s us _ hl => by
  rw [List.append_nil] at hl ⊢
  exact .of_eq (h us hl)
/-- an exception of a callee reaches what this body wants of exceptions -/
def Passes (CX : CXT) (X : Cx) (E : XK) : Prop := ∀ (pins : List (Addr × Obj)) (σ : St) (H : Hp) (s : Shared) (e : Value) (s' : Shared), Inv X pins σ H s → CX X.stack H s E e s' → X.xe e s'
section
variable {X : Cx} {CX : CXT} {k : Nat} {f C : Addr} {fd : FuncData} {ps : List Str} {sp : Sp} {dvs : List V} {ds : List Value} {E : XK} {x m : Str} {p pos apos : Pos} {e o : Expr} {es : List Expr} {ta : TE} {t : TA}
/-- the callee runs -/
theorem run_fn {pins : List (Addr × Obj)} {σ : St} {H : Hp} {s : Shared} {Q : VK} {us : List Value} {vs : List V} (F : FnOk X.prog X.w X.K X.mg X.base CX k f fd ps sp) (hr : Room k X.A) (hb : Binds X.K fd ps ds) (hd : Vals dvs ds) (hx : Passes CX X E)
    (I : Inv X pins σ H s) (r : Vals vs us) (h : sp (vs ++ dvs) H Q E) : wpAny (model X.prog X.w) X.A (call (.ref f) us) (EP X pins σ Q) X.xe s := by
  have r2 : Vals (vs ++ dvs) (us ++ ds) := r.append hd
  have hl : (us ++ ds).length = ps.length := by rw [← r2.length]; exact F.len _ _ _ _ h
  refine wpAny_call (codeAny_mono (F.run X.A X.stack s H ⟨us, []⟩ (us ++ ds) (vs ++ dvs) Q E hr I.env0 (hb s us I.kIn hl) r2 h) fun r s' hq => ?_)
  cases r with
  | error e => exact hx pins σ H s e s' I hq
  | ok fl =>
    cases fl with
    | ret u => exact I.after hq
    | next => exact False.elim hq
    | brk => exact False.elim hq
    | cont => exact False.elim hq
theorem pe_call (F : FnOk X.prog X.w X.K X.mg X.base CX k f fd ps sp) (hr : Room k X.A) (hg : Gl X x) (hm : X.mg x = some (.ref f)) (hk : PySem.W.keepIn X.K (.ref f) = true) (hb : Binds X.K fd ps ds) (hd : Vals dvs ds) (hx : Passes CX X E)
    (ha : PA X (e :: es) t) (hdb : (x == ("__debug__" : Str)) = false := by decide) (he : starEach (e :: es) X.env = (false, eval e X.env) :: starEach es X.env := by rfl) (hpl : (backTo pos (starEach es X.env)).any (·.1) = false := by rfl) :
    PE X (.Call (.Name x p) (e :: es) [] pos) (tCall sp dvs E t) := by
  intro pins s σ H Q I h
  refine wpAny_Call_Name_kw (ld_glob I hg hm ?_ hdb)
  refine PySem.W.callWith_K (h₀ := X.base) I.ok.mod.kin hk (thn (ha pos pins s σ H _ I h) fun us s1 ⟨vs, H1, I1, r, q⟩ => ⟨I1.kIn, ?_⟩) he hpl
  exact run_fn F hr hb hd hx I1 r q
end
/-! ### keywords -/
section
variable {X : Cx} {CX : CXT} {k : Nat} {f C : Addr} {fd : FuncData} {ps ks : List Str} {sp : Sp} {E : XK} {x m : Str} {p pos apos kpos : Pos} {e o : Expr} {es : List Expr} {kws : List Keyword} {te ta : TE} {t tk : TA} {nm : Option Str}
variable {g : List Value → List Value → List Value} {gV : List V → List V → List V}
end
/-! ### a def's body keeps its promise -/
/-- names: the parameters first -/
structure FnScope (N P : List Str) (sc : Scope) : Prop where
  kind : sc.kind = .function
  co : sc.isCoroutine = false
  gen : sc.isGenerator = false
  nd : N.Nodup
  pre : N.take P.length = P
  par : ∀ x ∈ P, sc.names.lookup x = some .local ∨ sc.names.lookup x = some .cell
  nofree : ∀ y ∈ sc.names, y.2 ≠ .free
theorem bindL_out {kindOf : Str → Option NameKind} {x : Str} : ∀ {binds : List (Str × Value)} {m : Str → Option Value}, (∀ v, (x, v) ∉ binds) → bindL kindOf binds m x = m x
  | [], _, _ => rfl
  | (n, v) :: r, m, h => by
    unfold bindL
    rw [bindL_out fun w hw => h w (List.mem_cons_of_mem _ hw)]
    split
    · have : x ≠ n := by rintro rfl; exact h v List.mem_cons_self
      simp [this]
    · rfl
theorem bindC_out {kindOf : Str → Option NameKind} {x : Str} : ∀ {binds : List (Str × Value)} {m : Str → Option Value}, (∀ v, (x, v) ∉ binds) → bindC kindOf binds m x = m x
  | [], _, _ => rfl
  | (n, v) :: r, m, h => by
    unfold bindC
    rw [bindC_out fun w hw => h w (List.mem_cons_of_mem _ hw)]
    split
    · rfl
    · have : x ≠ n := by rintro rfl; exact h v List.mem_cons_self
      simp [this]
theorem bindL_get {kindOf : Str → Option NameKind} {x : Str} {v : Value} : ∀ {P : List Str} {vs : List Value} {i : Nat} {m : Str → Option Value}, P.Nodup → P[i]? = some x → vs[i]? = some v → kindOf x = some .local →
    bindL kindOf (P.zip vs) m x = some v
  | [], _, _, _, _, h, _, _ => by simp at h
  | _ :: _, [], _, _, _, _, h, _ => by simp at h
  | p :: P, w :: vs, 0, m, nd, h1, h2, hk => by
    simp at h1 h2; subst h1; subst h2
    show bindL kindOf ((p, w) :: P.zip vs) m p = _
    unfold bindL
    rw [bindL_out fun v hv => (List.nodup_cons.mp nd).1 (List.of_mem_zip hv).1, if_pos hk]
    simp
  | p :: P, w :: vs, i + 1, m, nd, h1, h2, hk => by
    show bindL kindOf ((p, w) :: P.zip vs) m x = _
    unfold bindL
    exact bindL_get (i := i) (List.nodup_cons.mp nd).2 (by simpa using h1) (by simpa using h2) hk
theorem bindC_get {kindOf : Str → Option NameKind} {x : Str} {v : Value} : ∀ {P : List Str} {vs : List Value} {i : Nat} {m : Str → Option Value}, P.Nodup → P[i]? = some x → vs[i]? = some v → kindOf x ≠ some .local →
    bindC kindOf (P.zip vs) m x = some v
  | [], _, _, _, _, h, _, _ => by simp at h
  | _ :: _, [], _, _, _, _, h, _ => by simp at h
  | p :: P, w :: vs, 0, m, nd, h1, h2, hk => by
    simp at h1 h2; subst h1; subst h2
    show bindC kindOf ((p, w) :: P.zip vs) m p = _
    unfold bindC
    rw [bindC_out fun v hv => (List.nodup_cons.mp nd).1 (List.of_mem_zip hv).1, if_neg hk]
    simp
  | p :: P, w :: vs, i + 1, m, nd, h1, h2, hk => by
    show bindC kindOf ((p, w) :: P.zip vs) m x = _
    unfold bindC
    exact bindC_get (i := i) (List.nodup_cons.mp nd).2 (by simpa using h1) (by simpa using h2) hk
/-- the names' values at the entry -/
def start (N : List Str) (vs : List V) : St := vs.map some ++ List.replicate (N.length - vs.length) none
/-- the context of a def's body, at its entry; an exception leaves the frame, then lies as CX says -/
def cxOf (CX : CXT) (P : Program) (w : World) (K : PySem.W.Frag) (mg : Str → Option Value) (base : Heap) (N : List Str) (qual : Str) (scope : Scope) (f : Addr) (cd : Value) (A : Around) (outer : List Env) (s : Shared) (H : Hp) (E : XK) : Cx where
  prog := P
  w := w
  K := K
  mg := mg
  base := base
  A := A.deeper (envOfC qual scope s.heap.objs.size f cd)
  N := N
  s_0 := s
  H_0 := H
  env := envOfC qual scope s.heap.objs.size f cd
  outer := outer
  stack := envOfC qual scope s.heap.objs.size f cd :: outer
  ex := []
  calm := true
  fn := fun _ => true
  pn := []
  xe := fun e s' => wpAny (model P w) (A.deeper (envOfC qual scope s.heap.objs.size f cd)) (leaving (envOfC qual scope s.heap.objs.size f cd) e) (fun _ s'' => CX outer H s E e s'') (fun e' s'' => CX outer H s E e' s'') s'
theorem cell_has {sc : Scope} {n : Nat} {x : Str} (h : sc.names.lookup x = some .cell) : ∃ c, (cellsFrom n sc.names []).lookup x = some c := by
  have q := PySem.W.cellsFrom_some sc.names n [] (.inl h)
  exact Option.isSome_iff_exists.mp q
theorem inv_start {CX : CXT} {P : Program} {w : World} {K : PySem.W.Frag} {mg : Str → Option Value} {base : Heap} {N ps : List Str} {qual : Str} {scope : Scope} {f : Addr} {cd : Value} {A : Around} {outer : List Env} {s s1 : Shared} {H : Hp} {E : XK} {us : List Value} {vs : List V}
    (S : FnScope N ps scope) (hd : A.handled = none) (e0 : Env0 P w K mg base A outer s H) (hl : vs.length = ps.length) (r : Vals vs us)
    (x : InCallC s s.heap.objs.size (bindL (envOfC qual scope s.heap.objs.size f cd).kindOf (ps.zip us) fun _ => none) (cellsFrom (s.heap.objs.size + 1) scope.names []) (bindC (envOfC qual scope s.heap.objs.size f cd).kindOf (ps.zip us) fun _ => none) s1) :
    Inv (cxOf CX P w K mg base N qual scope f cd A outer s H E) [] (start N vs) H s1 := by
  have hpl : ps.length ≤ N.length := by have := congrArg List.length S.pre; rw [List.length_take] at this; omega
  obtain ⟨h1, tk, rfl, hk⟩ := x.done
  have noA : ∀ b : Addr, b ∉ (cxOf CX P w K mg base N qual scope f cd A outer s H E).ex := fun b z => absurd (show b ∈ ([] : List Addr) from z) (by simp)
  refine ⟨⟨e0.mod, S.kind, rfl, rfl, Nat.le_refl _, fun y z c h1 h2 => ?_, fun y hy => ?_, fun y c _ h => ?_, fun _ => hd, Around.frames_deeper e0.frames, .inr ⟨rfl, rfl⟩, fun b z => absurd z (noA b), e0.bs, e0.bsz, fun b _ _ => noA b, fun b z => absurd z (noA b), e0.funs, e0.frf⟩,
    rfl, e0.bare, Un.kept hk, ⟨_, x.toInCall.ns, fun i y v h1 h2 h3 => ?_⟩, fun y c h => ⟨_, x.cell y c h⟩, e0.hok.fresh (Nat.le_refl _), fun y c h => ?_, fun p hp => absurd (show p ∈ ([] : List (Addr × Obj)) from hp) (by simp), e0.hok.kept hk, ?_⟩
  · exact name_of_addr x.apart (PySem.mem_of_lookup h1) (PySem.mem_of_lookup h2)
  · have hy : scope.names.lookup y = some .cell ∨ scope.names.lookup y = some .free := hy
    rcases hy with hy | hy
    · exact cell_has hy
    · exact absurd rfl (S.nofree _ (PySem.mem_of_lookup hy))
  · exact Nat.le_of_lt (x.above y c (PySem.mem_of_lookup h))
  · have hi : i < vs.length := by
      unfold start at h2
      by_cases hi : i < vs.length
      · exact hi
      · rw [List.getElem?_append_right (by simpa using hi)] at h2
        rw [List.getElem?_replicate] at h2
        split at h2 <;> cases h2
    have ha : vs[i]? = some v := by
      unfold start at h2
      rw [List.getElem?_append_left (by simpa using hi), List.getElem?_map] at h2
      cases e : vs[i]? with
      | none => rw [e] at h2; cases h2
      | some a => rw [e] at h2; cases h2; rfl
    obtain ⟨u, hu, rv⟩ := r.get ha
    have hp : ps[i]? = some y := by
      rw [← S.pre, List.getElem?_take_of_lt (by omega)]; exact h1
    have ndP : ps.Nodup := by rw [← S.pre]; exact S.nd.sublist (List.take_sublist _ _)
    refine ⟨u, rv, ?_⟩
    rcases S.par y (List.mem_of_getElem? hp) with k | k
    · exact .inl ⟨k, bindL_get ndP hp hu k⟩
    · obtain ⟨c, e⟩ := cell_has (n := s.heap.objs.size + 1) k
      refine .inr ⟨.inl k, c, e, ?_⟩
      have q := x.cell y c e
      rw [bindC_get ndP hp hu (by show scope.names.lookup y ≠ _; rw [k]; decide)] at q
      exact q
  · exact e0.hok.fresh (Nat.le_of_lt (x.above y c (PySem.mem_of_lookup h)))
  · unfold start
    show _ = N.length
    rw [List.length_append, List.length_map, List.length_replicate]
    omega
/-- THE RULE: a def (or a method) of the text, by its body. The body's reading t is chosen for each entry; it is run at the parameters' values -/
theorem fn_of {CX : CXT} {P : Program} {w : World} {K : PySem.W.Frag} {mg : Str → Option Value} {base : Heap} {k : Nat} {f : Addr} {name qual : Str} {params : Arguments} {body : List Stmt} {scope : Scope} {dV kV doc pm cdv ct oc : Value} {an od : Option Addr}
    {osl : Array (Option Value)} {N ps : List Str} {sp : Sp} (lk : K.lookup f = some ⟨oc, od, .func (PySem.W.fnOf name qual params body scope dV kV doc pm an cdv ct), osl⟩) (hcd : PySem.W.codeIn K cdv qual = true) (S : FnScope N ps scope)
    (len : ∀ vs H Q E, sp vs H Q E → vs.length = ps.length)
    (hbody : ∀ (A : Around) (outer : List Env) (s : Shared) (H : Hp) (vs : List V) (Q : VK) (E : XK), Room k (A.deeper (envOfC qual scope s.heap.objs.size f cdv)) → sp vs H Q E →
      ∃ t, PSs (cxOf CX P w K mg base N qual scope f cdv A outer s H E) body t ∧ t { nx := fun _ H' => Q .non H', rt := Q } (start N vs) H) :
    FnOk P w K mg base CX (k + 1) f (PySem.W.fnOf name qual params body scope dV kV doc pm an cdv ct) ps sp := by
  refine ⟨len, fun A outer s H args us vs Q E hr e0 hb r hsp => ?_⟩
  have hl := len _ _ _ _ hsp
  have KX : K.In s.heap := e0.mod.kin.keeps fun b o e => (e0.bs b o e).1
  have lim : s.heap.NoLimit := e0.mod.nolimit.keeps fun b o e => (e0.bs b o e).1
  have hkind : ∀ y ∈ ps.zip us, scope.names.lookup y.1 = some .local ∨ (scope.names.lookup y.1 = some .cell ∧ ((cellsFrom (s.heap.objs.size + 1) scope.names []).lookup y.1).isSome = true) := fun ⟨n, v⟩ hy => by
    rcases S.par n (List.of_mem_zip hy).1 with q | q
    · exact .inl q
    · exact .inr ⟨q, PySem.W.cellsFrom_some _ _ _ (.inl q)⟩
  refine codeAny_call_function hr.depth (KX _ _ lk) rfl S.co S.gen rfl (PySem.W.codeRec_of KX hcd) (hb _ _ _ _ ?_)
  refine wpAny_newFunctionEnv_cells S.kind hkind fun env he s1 x => ?_
  subst he
  refine ⟨lim.keeps x.toInCall.keep, codeAny_func ?_⟩
  obtain ⟨t, ht, hq⟩ := hbody A outer s H vs Q E (hr.deeper _) hsp
  have I : Inv (cxOf CX P w K mg base N qual scope f cdv A outer s H E) [] (start N vs) H s1 := inv_start S hr.hd e0 hl r x
  refine wpAny_mono (ht [] s1 (start N vs) H _ I hq) (fun fl s' hs => ?_) fun e s' hs => hs
  have fin : ∀ {σ' : St} {H' : Hp} {v : V} {u : Value}, Inv (cxOf CX P w K mg base N qual scope f cdv A outer s H E) [] σ' H' s' → RelV v u → Q v H' → CE outer P w H s Q u s' :=
    fun {σ' H' v u} J rv q => ⟨v, H', J.os, J.bare, J.base, J.hok, rv, q⟩
  cases fl with
  | ret u =>
    obtain ⟨v, σ', H', J, rv, q⟩ := hs
    exact fin J rv q
  | next =>
    obtain ⟨σ', H', J, q⟩ := hs
    exact fin (v := V.non) (u := Value.none) J rfl q
  | brk =>
    obtain ⟨_, _, _, q⟩ := hs
    exact False.elim q
  | cont =>
    obtain ⟨_, _, _, q⟩ := hs
    exact False.elim q
end L2
namespace L2
open PySem PySem.Spec PyProof.Rows
section
variable {X : Cx} {x : Str} {p pos : Pos} {e : Expr} {es : List Expr} {t : TA} {id T : String} {r : List V → Hp → VK → Prop}
def tCB (r : List V → Hp → VK → Prop) (t : TA) : TE := fun σ H Q => t σ H fun vs H1 => r vs H1 Q
/-- f(e, ..), f a built-in function -/
theorem pe_callB (hc : CallR X (.builtin id) r) (hg : Gl X x) (hm : X.mg x = none) (hv : bootBuiltins x = some (.builtin id)) (ha : PA X (e :: es) t) (hn : x ≠ "__name__" := by decide) (hdb : (x == ("__debug__" : Str)) = false := by decide)
    (he : starEach (e :: es) X.env = (false, eval e X.env) :: starEach es X.env := by rfl) (hpl : (backTo pos (starEach es X.env)).any (·.1) = false := by rfl) : PE X (.Call (.Name x p) (e :: es) [] pos) (tCB r t) := by
  intro pins s σ H Q I h
  refine wpAny_Call_Name_kw (ld_blt I hg hm hv ?_ hn hdb)
  exact PyProof.Rows.callWith_builtin1 (thn (ha pos pins s σ H _ I h) fun us s1 ⟨vs, H1, I1, r1, q1⟩ => hc pins s1 σ H1 vs us Q I1 r1 q1) he hpl
/-- T(e, ..), T a built-in type -/
theorem pe_callTy (hc : CallR X (.type T) r) (hg : Gl X x) (hm : X.mg x = none) (hv : bootBuiltins x = some (.type T)) (ha : PA X (e :: es) t) (hn : x ≠ "__name__" := by decide) (hdb : (x == ("__debug__" : Str)) = false := by decide)
    (he : starEach (e :: es) X.env = (false, eval e X.env) :: starEach es X.env := by rfl) (hpl : (backTo pos (starEach es X.env)).any (·.1) = false := by rfl) : PE X (.Call (.Name x p) (e :: es) [] pos) (tCB r t) := by
  intro pins s σ H Q I h
  refine wpAny_Call_Name_kw (ld_blt I hg hm hv ?_ hn hdb)
  exact PyProof.Rows.callWith_type1 (thn (ha pos pins s σ H _ I h) fun us s1 ⟨vs, H1, I1, r1, q1⟩ => hc pins s1 σ H1 vs us Q I1 r1 q1) he hpl
end
end L2
namespace HT
open PySem PyProof.Rows
section
open PySem.SeqAt
open PySem.AutoSeq1 (wpAny_loadPart')
open PySem.MeetsSeq PySem.MeetsSeq2 PySem.MeetsSeq3
end
section
variable {prog : Program} {w : World} {A : Around} {E : Value → Shared → Prop} {s : Shared}
/-! ### t[a:b], not the whole -/
/-- a slice's bound as a place among n (d where it is left out) -/
def sIx (n d : Nat) : Option Int → Nat
  | none => d
  | some v => if v < 0 then (v + (n : Int)).toNat else min v.toNat n
theorem sIx_none (n d : Nat) : sIx n d none = d := rfl
theorem sIx_nat (n d k : Nat) : sIx n d (some (k : Int)) = min k n := by
  show (if (k : Int) < 0 then ((k : Int) + (n : Int)).toNat else min (k : Int).toNat n) = min k n
  rw [if_neg (by omega), Int.toNat_natCast]
end
end HT
namespace L2
open PySem PySem.Spec PyProof.Rows
/-! ### the parts of a slice -/
abbrev TO := St → Hp → (Option Int → Hp → Prop) → Prop
/-- a slice's part (left out, or an int) -/
def PO (X : Cx) (e : Option Expr) (t : TO) : Prop :=
  ∀ (pins : List (Addr × Obj)) (s : Shared) (σ : St) (H : Hp) (Q : Option Int → Hp → Prop), Inv X pins σ H s → t σ H Q →
    wpAny (model X.prog X.w) X.A (evalPart e X.env) (fun u s' => ∃ o H', Inv X pins σ H' s' ∧ IsPart u o ∧ Q o H') X.xe s
def tNoPart : TO := fun _ H Q => Q none H
def tPart (t : TE) : TO := fun σ H Q => t σ H fun x H1 => ∃ i, x = .int i ∧ Q (some i) H1
section
variable {X : Cx} {e : Expr} {te : TE} {lo hi : Option Expr} {tl th : TO} {pos p2 : Pos}
theorem po_none : PO X none tNoPart := by
  intro pins s σ H Q I h
  rw [evalPart_none]
  exact wpAny_pure ⟨none, H, I, .none, h⟩
theorem po_some (h : PE X e te) : PO X (some e) (tPart te) := by
  intro pins s σ H Q I hw
  rw [evalPart_some]
  refine thn (h pins s σ H _ I hw) fun u s1 ⟨x, H1, I1, r1, q1⟩ => ?_
  obtain ⟨i, rfl, q⟩ := q1
  obtain ⟨t, rfl⟩ := r1
  exact ⟨some i, H1, I1, .int i t, q⟩
/-- what a slice of a value is, by values: the slice object stands at sl -/
def SlR (X : Cx) (r : V → Option Int → Option Int → Hp → VK → Prop) : Prop :=
  ∀ (pins : List (Addr × Obj)) (s : Shared) (σ : St) (H : Hp) (x : V) (v vl vu : Value) (lo hi : Option Int) (sl : Addr) (Q : VK), Inv X pins σ H s → RelV x v → s.heap.IsSliceOf sl vl vu .none → IsPart vl lo → IsPart vu hi → r x lo hi H Q →
    ∃ T id, typeLookup (.type T) "__getitem__" = pure (some (.builtin id)) ∧ s.TypeIs v T ∧ wpAny (model X.prog X.w) X.A (getItem v (.ref sl)) (EP X pins σ Q) X.xe s
def tSl (r : V → Option Int → Option Int → Hp → VK → Prop) (te : TE) (tl th : TO) : TE := fun σ H Q => te σ H fun x H1 => tl σ H1 fun l H2 => th σ H2 fun u H3 => r x l u H3 Q
/-- a[lo:hi], any a -/
theorem pe_slice {r : V → Option Int → Option Int → Hp → VK → Prop} (hr : SlR X r) (he : PE X e te) (hl : PO X lo tl) (hu : PO X hi th) : PE X (.Subscript e (.Slice lo hi none p2) pos) (tSl r te tl th) := by
  intro pins s σ H Q I h
  refine Subscript_ (thn (he pins s σ H _ I h) fun v s1 ⟨x, H1, I1, r1, q1⟩ => ?_)
  refine wpAny_Slice (thn (hl pins s1 σ H1 _ I1 q1) fun vl s2 ⟨l, H2, I2, pl, q2⟩ => thn (hu pins s2 σ H2 _ I2 q2) fun vu s3 ⟨u, H3, I3, pu, q3⟩ => ?_)
  rw [evalPart_none]
  refine wpAny_pure ?_
  have I4 : Inv X pins σ H3 { s3 with heap := s3.heap.push { cls := .type "slice", data := .fields #[vl, vu, .none] } } := I3.kept (t' := s3.toks) fun b ob q => Heap.get?_push_of_some _ q
  obtain ⟨T, id, hT, ht, hg⟩ := hr pins { s3 with heap := s3.heap.push { cls := .type "slice", data := .fields #[vl, vu, .none] } } σ H3 x v vl vu l u s3.heap.objs.size Q I4 r1 (Heap.IsSliceOf.new ..) pl pu q3
  show wpAny (model X.prog X.w) X.A (subscriptTail e (.Slice lo hi none p2) v (.ref s3.heap.objs.size)) (EP X pins σ Q) X.xe { s3 with heap := s3.heap.push { cls := .type "slice", data := .fields #[vl, vu, .none] } }
  exact tail_any (ops := [.ref s3.heap.objs.size, v]) ht hT hg (by with_unfolding_all rfl)
/-- the items of xs[lo:hi] -/
def cutV (xs : List V) (lo hi : Option Int) : List V := (xs.drop (HT.sIx xs.length 0 lo)).take (HT.sIx xs.length xs.length hi - HT.sIx xs.length 0 lo)
theorem cutV_length (xs : List V) (lo hi : Option Int) : (cutV xs lo hi).length ≤ xs.length := by
  unfold cutV
  rw [List.length_take, List.length_drop]
  omega
/-! ### t < u, t + u -/
end
end L2
namespace L2
open PySem PySem.Spec PyProof.Rows
/-! ### places -/
/-- the place that an index of any sign means -/
def ixN (n : Nat) (i : Int) : Option Nat := if 0 ≤ i then (if i < n then some i.toNat else none) else if -(n : Int) ≤ i then some (i + n).toNat else none
def atI {α : Type} (xs : List α) (i : Int) : Option α := (ixN xs.length i).bind fun j => xs[j]?
theorem ixN_seq {n : Nat} {i : Int} {j : Nat} (h : ixN n i = some j) : seqIndex? i n = some j ∧ j < n ∧ -(n : Int) ≤ i ∧ i < n := by
  unfold ixN at h
  by_cases h0 : 0 ≤ i
  · rw [if_pos h0] at h
    by_cases h1 : i < n
    · rw [if_pos h1] at h
      have e : i.toNat = j := Option.some.inj h
      exact ⟨by rw [seqIndex_of h0 h1, e], by omega, by omega, h1⟩
    · rw [if_neg h1] at h; cases h
  · rw [if_neg h0] at h
    by_cases h1 : -(n : Int) ≤ i
    · rw [if_pos h1] at h
      have e : (i + n).toNat = j := Option.some.inj h
      exact ⟨by rw [seqIndex_neg (by omega) h1, e], by omega, h1, by omega⟩
    · rw [if_neg h1] at h; cases h
theorem atI_get {α : Type} {xs : List α} {i : Int} {v : α} (h : atI xs i = some v) : ∃ j, seqIndex? i xs.length = some j ∧ xs[j]? = some v ∧ j < xs.length ∧ -(xs.length : Int) ≤ i ∧ i < xs.length := by
  unfold atI at h
  cases e : ixN xs.length i with
  | none => rw [e] at h; cases h
  | some j =>
    rw [e] at h
    obtain ⟨h1, h2, h3, h4⟩ := ixN_seq e
    exact ⟨j, h1, h, h2, h3, h4⟩
theorem atI_nat {α : Type} {xs : List α} {j : Nat} {v : α} (h : xs[j]? = some v) : atI xs (j : Int) = some v := by
  have hj : j < xs.length := (List.getElem?_eq_some_iff.mp h).1
  have e : ixN xs.length (j : Int) = some j := by
    unfold ixN
    rw [if_pos (by omega), if_pos (by omega)]; simp
  unfold atI; rw [e]; exact h
/-! ### what may be subscripted -/
/-- what stands as an index of a plain subscript -/
def PlainIx (b : Expr) : Prop := ∀ o i, subscripted b false o i = operate [o, i] (getItem o i)
/-- a subscript by values -/
def IxR (X : Cx) (r : R2) : Prop :=
  ∀ (value slice : Expr) (pins : List (Addr × Obj)) (s : Shared) (σ : St) (H : Hp) (x y : V) (v u : Value) (Q : VK), Inv X pins σ H s → RelV x v → RelV y u → r x y H Q →
    subscripted slice false v u = operate [v, u] (getItem v u) → wpAny (model X.prog X.w) X.A (subscriptTail value slice v u) (EP X pins σ Q) X.xe s
/-- a call of a builtin's method by values: the receiver, the arguments -/
def MtR (X : Cx) (id : String) (r : V → List V → Hp → VK → Prop) : Prop :=
  ∀ (pins : List (Addr × Obj)) (s : Shared) (σ : St) (H : Hp) (x : V) (xs : List V) (v : Value) (us : List Value) (Q : VK), Inv X pins σ H s → RelV x v → Vals xs us → r x xs H Q →
    wpAny (model X.prog X.w) X.A (call (.builtin id) (v :: us)) (EP X pins σ Q) X.xe s
section
variable {X : Cx} {a b : Expr} {ta tb : TE} {pos : Pos}
/-- a[b] -/
theorem pe_ix {r : R2} (hr : IxR X r) (ha : PE X a ta) (hb : PE X b tb) (hs : PlainIx b) : PE X (.Subscript a b pos) (tOp r ta tb) := by
  intro pins s σ H Q I h
  exact Subscript_ (binT ha hb I h fun v u s2 x y H2 I2 rx ry q => hr a b pins s2 σ H2 x y v u Q I2 rx ry q (hs _ _))
def rIxL (K : PySem.W.Frag) : R2 := fun x y H Q => ∃ p xs i v, x = .ref p ∧ y = .int i ∧ SqL K H p xs ∧ atI xs i = some v ∧ Q v H
def rIxT (K : PySem.W.Frag) : R2 := fun x y H Q => ∃ p xs i v, x = .ref p ∧ y = .int i ∧ SqT K H p xs ∧ atI xs i = some v ∧ Q v H
theorem ix_list : IxR X (rIxL X.K) := by
  intro value slice pins s σ H x y v u Q I rx ry h hs
  obtain ⟨p, xs, i, z, rfl, rfl, hq, he, q⟩ := h
  cases rx
  obtain ⟨t, rfl⟩ := ry
  obtain ⟨its, r, pl, hz⟩ := I.list hq
  obtain ⟨j, h1, h2, h3, h4, h5⟩ := atI_get he
  obtain ⟨w, ew, rw'⟩ := r.get h2
  have hl := r.length
  have hn := line63
  have fin : EP X pins σ Q w s := ⟨z, H, I, rw', q⟩
  by_cases h0 : 0 ≤ i
  · have hj : i.toNat = j := by
      rw [seqIndex_of h0 h5] at h1
      exact Option.some.inj h1
    exact item_listR pl.isList h0 (by omega) (by rw [hj]; simpa using ew) fin hs
  · have hj : (i + (its.toArray.size : Int)).toNat = j := by
      rw [seqIndex_neg (by omega) h4] at h1
      rw [List.size_toArray, ← hl]
      exact Option.some.inj h1
    exact subscriptTail_builtinR (x := w) pl.isList.typeIs slot_list_getitem.lookup
      (wpAny_getItem_list_neg (Q := fun r s' => r = w ∧ EP X pins σ Q r s') pl.isList (by omega) (by rw [List.size_toArray] <;> omega) (by omega) (by rw [hj]; simpa using ew) ⟨rfl, fin⟩) hs
theorem ix_tup : IxR X (rIxT X.K) := by
  intro value slice pins s σ H x y v u Q I rx ry h hs
  obtain ⟨p, xs, i, z, rfl, rfl, hq, he, q⟩ := h
  cases rx
  obtain ⟨t, rfl⟩ := ry
  obtain ⟨its, r, pl, hz⟩ := I.tuple hq
  obtain ⟨j, h1, h2, h3, h4, h5⟩ := atI_get he
  obtain ⟨w, ew, rw'⟩ := r.get h2
  have hl := r.length
  have hn := line63
  have fin : EP X pins σ Q w s := ⟨z, H, I, rw', q⟩
  exact subscriptTail_builtinR (x := w) pl.typeIs slot_tuple_getitem.lookup
    (getItem_tuple (j := j) (Q := fun r s' => r = w ∧ EP X pins σ Q r s') pl (by omega) (by omega) (by rw [List.size_toArray, ← hl]; exact h1) (by simpa using ew) ⟨rfl, fin⟩) hs
/-! ### xs[i] = v, any sign -/
/-- the list's object behind a store -/
theorem mapSeq_set (its : List Value) (n j : Nat) (u : Value) : Obj.mapSeq (·.setIfInBounds j u) { cls := .type "list", data := .seq its.toArray n } = { cls := .type "list", data := .seq (its.set j u).toArray n } := by
  simp [Obj.mapSeq]
theorem Inv.lst {pins : List (Addr × Obj)} {σ : St} {H : Hp} {s : Shared} {p : Addr} {xs : List V} (I : Inv X pins σ H s) (h : H p = some (.lst xs)) :
    ∃ (its : List Value) (n : Nat), Vals xs its ∧ s.heap.get? p = some { cls := .type "list", data := .seq its.toArray n } ∧ xs.length ≤ sizeLine := by
  obtain ⟨z, its, n, r, e⟩ := I.hok p _ h
  exact ⟨its, n, r, e, z⟩
/-- the list at p is written by an update of its object -/
theorem Inv.lstUpd {pins : List (Addr × Obj)} {σ : St} {H : Hp} {s : Shared} {p : Addr} {xs ys : List V} {its its' : List Value} {n n' : Nat} {f : Obj → Obj} (I : Inv X pins σ H s) (h : H p = some (.lst xs))
    (ho : s.heap.get? p = some { cls := .type "list", data := .seq its.toArray n }) (hf : f { cls := .type "list", data := .seq its.toArray n } = { cls := .type "list", data := .seq its'.toArray n' }) (r : Vals ys its') (hz : ys.length ≤ sizeLine) (t : Nat) :
    Inv X pins σ (upd H p (.lst ys)) { s with heap := s.heap.update p f, toks := t } := by
  have e : (s.heap.update p f).get? p = some { cls := .type "list", data := .seq its'.toArray n' } := by
    rw [Heap.get?_update_self f ho (by rw [hf] <;> rfl), hf]
  refine I.write (x := p) (e := p) (by rw [h]; trivial) (.inl rfl) (fun b u hb q => (Heap.get?_update_other _ _ (Ne.symm hb)).trans q) ⟨_, e⟩ ?_
  exact ⟨hz, its', n', r, e⟩
def rSetL : V → V → V → Hp → (Hp → Prop) → Prop := fun o i v H Q => ∃ p xs k j, o = .ref p ∧ i = .int k ∧ H p = some (.lst xs) ∧ ixN xs.length k = some j ∧ Q (upd H p (.lst (xs.set j v)))
theorem set_list : PSet X rSetL := by
  intro pins s σ H o i v ov iv u Q I ro ri rv h
  obtain ⟨p, xs, k, j, rfl, rfl, hp, hj, q⟩ := h
  cases ro
  obtain ⟨t, rfl⟩ := ri
  obtain ⟨its, n, r, ho, hz⟩ := I.lst hp
  obtain ⟨h1, h2, h3, h4⟩ := ixN_seq hj
  have hl := r.length
  have hn := line63
  have I' : Inv X pins σ (upd H p (.lst (xs.set j v))) { s with heap := s.heap.update p (Obj.mapSeq (·.setIfInBounds j u)) } :=
    I.lstUpd hp ho (mapSeq_set its n j u) (r.set rv j) (by rw [List.length_set]; exact hz) s.toks
  by_cases h0 : 0 ≤ k
  · have hk : k.toNat = j := by
      rw [seqIndex_of h0 h4] at h1
      exact Option.some.inj h1
    exact PySem.W.ki_setAt ho h0 (by omega) (by rw [List.size_toArray, ← hl]; exact h4) (by rw [hk]; exact ⟨_, I', q⟩)
  · have hk : (k + (its.toArray.size : Int)).toNat = j := by
      rw [seqIndex_neg (by omega) h3] at h1
      rw [List.size_toArray, ← hl]
      exact Option.some.inj h1
    exact PySem.W.ki_setBack ho (by omega) (by rw [List.size_toArray, ← hl]; exact h3) (by omega) (by rw [hk]; exact ⟨_, I', q⟩)
/-! ### slices -/
theorem slice_bounds (lo hi : Option Int) (n : Nat) : (sliceBounds lo hi none n).1 = ((HT.sIx n 0 lo : Nat) : Int) ∧ (sliceBounds lo hi none n).2.1 = ((HT.sIx n n hi : Nat) : Int) ∧ (sliceBounds lo hi none n).2.2 = 1 := by
  refine ⟨?_, ?_, rfl⟩
  · cases lo with
    | none => simp [sliceBounds, HT.sIx]
    | some i =>
      simp only [sliceBounds, HT.sIx, Option.getD_none, show (1 : Int) > 0 by decide, if_true]
      by_cases h : i < 0
      · simp only [h, if_true] <;> omega
      · simp only [h, if_false] <;> omega
  · cases hi with
    | none => simp [sliceBounds, HT.sIx]
    | some i =>
      simp only [sliceBounds, HT.sIx, Option.getD_none, show (1 : Int) > 0 by decide, if_true]
      by_cases h : i < 0
      · simp only [h, if_true] <;> omega
      · simp only [h, if_false] <;> omega
theorem slicePick_cut (its : List Value) (lo hi : Option Int) : slicePick its.toArray lo hi none = ((its.drop (HT.sIx its.length 0 lo)).take (HT.sIx its.length its.length hi - HT.sIx its.length 0 lo)).toArray := by
  obtain ⟨h1, h2, h3⟩ := slice_bounds lo hi its.toArray.size
  unfold slicePick
  rw [h1, h2, h3]
  simp only [sliceRange_one, pick_run, List.size_toArray] <;> rfl
/-- xs[lo:hi] of a list: a new list -/
def rSlL (K : PySem.W.Frag) : V → Option Int → Option Int → Hp → VK → Prop := fun x lo hi H Q => ∃ a xs, x = .ref a ∧ SqL K H a xs ∧ ∀ p, H p = none → Q (.ref p) (upd H p (.lst (cutV xs lo hi)))
theorem sl_list : SlR X (rSlL X.K) := by
  intro pins s σ H x v vl vu lo hi sl Q I rx hs pl pu h
  obtain ⟨a, xs, rfl, hx, q⟩ := h
  cases rx
  obtain ⟨its, r, ht, hz⟩ := I.list hx
  have hlen := r.length
  refine ⟨"list", _, slot_list_getitem.lookup, ht.isList.typeIs, ?_⟩
  refine wpAny_getItem_list_slice ht.isList hs pl pu .none (by simp) ?_ (by rw [List.size_toArray] <;> omega)
  rw [slicePick_cut, ← hlen]
  refine ⟨.ref s.heap.objs.size, _, I.laid (t' := s.toks) (o := .lst (cutV xs lo hi)) (fun b ob q => Heap.get?_push_of_some _ q) (Nat.le_refl _) ?_, rfl, q _ (I.hok.fresh (Nat.le_refl _))⟩
  exact ⟨Nat.le_trans (cutV_length xs lo hi) hz, _, 0, (r.drop (HT.sIx xs.length 0 lo)).take (HT.sIx xs.length xs.length hi - HT.sIx xs.length 0 lo), Heap.get?_push_size _ rfl⟩
/-! ### in, not in: flat items -/
/-! ### len, list(x), tuple(x) of any list or tuple that is read -/
theorem call_len_seq : CallR X (.builtin "len") (fun xs H Q => ∃ p ys, xs = [.ref p] ∧ (SqL X.K H p ys ∨ SqT X.K H p ys) ∧ Q (.int ys.length) H) := by
  intro pins s σ H xs us Q I r h
  obtain ⟨p, ys, rfl, hq, q⟩ := h
  obtain ⟨u, rfl, rx⟩ := vals1 r
  cases rx
  have hn := line63
  rcases hq with hq | hq
  · obtain ⟨its, r', pl, hz⟩ := I.list hq
    have hlen := r'.length
    exact Calls.call_len_list pl.isList (by simp only [List.size_toArray] <;> omega) ⟨.int ys.length, H, I.tok _, ⟨s.toks + 1, by rw [List.size_toArray, hlen]⟩, q⟩
  · obtain ⟨its, r', pl, hz⟩ := I.tuple hq
    have hlen := r'.length
    exact len_tuple pl (by simp only [List.size_toArray] <;> omega) ⟨.int ys.length, H, I.tok _, ⟨s.toks + 1, by rw [List.size_toArray, hlen]⟩, q⟩
/-! ### the call of a builtin's method: o.m(..) -/
/-- the value is of that builtin type -/
def tyV (K : PySem.W.Frag) (T : String) (x : V) (H : Hp) : Prop := match x with
  | .str _ => T = "str"
  | .int _ => T = "int"
  | .ref p => (T = "list" ∧ ∃ xs, SqL K H p xs) ∨ (T = "tuple" ∧ ∃ o, K.lookup p = some o ∧ o.cls = .type "tuple" ∧ o.dict = none) ∨
      (T = "dict" ∧ ((∃ kvs, H p = some (.dK kvs)) ∨ ∃ kvs, H p = some (.dT kvs))) ∨ (T = "set" ∧ ∃ S n, H p = some (.set S n))
  | _ => False
theorem tyV_is {pins : List (Addr × Obj)} {σ : St} {H : Hp} {s : Shared} {T : String} {x : V} {v : Value} (I : Inv X pins σ H s) (r : RelV x v) (ty : tyV X.K T x H) :
    s.TypeIs v T ∧ ∀ a, v = .ref a → ∃ ob, s.heap.get? a = some ob ∧ ob.dict = none := by
  cases x with
  | str z =>
    obtain ⟨t, rfl⟩ := r
    cases (show T = "str" from ty)
    exact ⟨typeIs_str s z t, fun _ e => nomatch e⟩
  | int i =>
    obtain ⟨t, rfl⟩ := r
    cases (show T = "int" from ty)
    exact ⟨typeIs_int s i t, fun _ e => nomatch e⟩
  | ref p =>
    cases r
    rcases ty with ⟨rfl, xs, hq⟩ | ⟨rfl, o, hk, hc, hd⟩ | ⟨rfl, hk⟩ | ⟨rfl, S, n, hk⟩
    · obtain ⟨its, _, pl, _⟩ := I.list hq
      refine ⟨pl.isList.typeIs, fun a e => ?_⟩
      cases e
      obtain ⟨o, n, e, c, hd, _⟩ := pl
      exact ⟨o, e, hd⟩
    · refine ⟨⟨o, I.kIn p o hk, hc⟩, fun a e => ?_⟩
      cases e
      exact ⟨o, I.kIn _ o hk, hd⟩
    · have z : ∃ o, s.heap.get? p = some o ∧ o.ExactDict := by
        rcases hk with ⟨kvs, hk⟩ | ⟨kvs, hk⟩
        · obtain ⟨_, _, _, _, o, _, _, e, ex, _⟩ := I.hok p _ hk
          exact ⟨o, e, ex⟩
        · obtain ⟨_, _, _, _, o, _, _, e, ex, _⟩ := I.hok p _ hk
          exact ⟨o, e, ex⟩
      obtain ⟨o, e, ex⟩ := z
      refine ⟨⟨o, e, ex.1⟩, fun a e2 => ?_⟩
      cases e2
      exact ⟨o, e, ex.2.1⟩
    · obtain ⟨o, _, _, _, e, ex, _⟩ := I.hok p _ hk
      refine ⟨⟨o, e, ex.1⟩, fun a e2 => ?_⟩
      cases e2
      exact ⟨o, e, ex.2.1⟩
  | _ => exact False.elim ty
def tBM0 (K : PySem.W.Frag) (T : String) (r : V → List V → Hp → VK → Prop) (to : TE) : TE := fun σ H Q => to σ H fun x H1 => tyV K T x H1 ∧ r x [] H1 Q
def tBM (K : PySem.W.Frag) (T : String) (r : V → List V → Hp → VK → Prop) (to : TE) (t : TA) : TE := fun σ H Q => to σ H fun x H1 => tyV K T x H1 ∧ t σ H1 fun xs H2 => r x xs H2 Q
variable {o e : Expr} {es : List Expr} {to : TE} {t : TA} {name : Str} {apos cpos : Pos} {T id : String} {r : V → List V → Hp → VK → Prop}
theorem pe_bm0 (pa : PlainAttrs T) (slot : Slot T name id) (hty : typeOf (.builtin id) = pure (.type "method_descriptor")) (hm : MtR X id r) (ho : PE X o to)
    (hbase : attributeBase o name X.env (eval o X.env) = eval o X.env := by rfl) (hline : (apos.endLine == cpos.line) = true := by rfl) : PE X (.Call (.Attribute o name apos) [] [] cpos) (tBM0 X.K T r to) := by
  intro pins s σ H Q I h
  refine wpAny_Call_method0_late hbase hline (thn (ho pins s σ H _ I h) fun v s1 ⟨x, H1, I1, r1, ty, q1⟩ => ?_)
  obtain ⟨h1, h2⟩ := tyV_is I1 r1 ty
  exact ⟨T, id, pa, slot, hty, h1, h2, Calls.callWith_builtin rfl (PySem.evalArgs_none (hm pins s1 σ H1 x [] v [] Q I1 r1 .nil q1))⟩
theorem pe_bm (pa : PlainAttrs T) (slot : Slot T name id) (hty : typeOf (.builtin id) = pure (.type "method_descriptor")) (hm : MtR X id r) (ho : PE X o to) (ha : PA X (e :: es) t)
    (hbase : attributeBase o name X.env (eval o X.env) = eval o X.env := by rfl)
    (hfew : ((backTo cpos (starEach (e :: es) X.env)).all (fun x => !x.1) && (backToKw cpos (keywordEach [] X.env)).all (fun x => x.1.isSome)
      && decide ((e :: es).length + ([] : List Keyword).length + (if ([] : List Keyword).isEmpty then 0 else 1) < 30)) = true := by rfl)
    (hline : (apos.endLine == cpos.line) = true := by rfl) (hs : starEach (e :: es) X.env = (false, eval e X.env) :: starEach es X.env := by rfl) (hplain : (backTo cpos (starEach es X.env)).any (·.1) = false := by rfl) :
    PE X (.Call (.Attribute o name apos) (e :: es) [] cpos) (tBM X.K T r to t) := by
  intro pins s σ H Q I h
  refine wpAny_Call_method_late hbase hfew hline rfl (thn (ho pins s σ H _ I h) fun v s1 ⟨x, H1, I1, r1, ty, q1⟩ => ?_)
  obtain ⟨h1, h2⟩ := tyV_is I1 r1 ty
  refine ⟨T, id, pa, slot, hty, h1, h2, ?_⟩
  have hA := ha cpos pins s1 σ H1 _ I1 q1
  rw [hs] at hA ⊢
  refine Calls.callWith_builtin (by show (false || (backTo cpos (starEach es X.env)).any (·.1)) = false; rw [hplain] <;> rfl) (Calls.evalArgs_plain ?_)
  exact thn hA fun us s2 ⟨vs, H2, I2, r2, q2⟩ => hm pins s2 σ H2 x vs v us Q I2 r1 r2 q2
/- xs.append(e), list.index on a module's tuple .. are MtR facts of 06m -/
end
end L2
namespace L2
open PySem PySem.Spec PyProof.Rows
def MtM (X : Cx) (id : String) (r : V → List V → Hp → VK → Prop) : Prop :=
  ∀ (pins : List (Addr × Obj)) (s : Shared) (σ : St) (H : Hp) (x : V) (xs : List V) (v : Value) (us : List Value) (Q : VK), Inv X pins σ H s → RelV x v → Vals xs us → r x xs H Q →
    wpAny (model X.prog X.w) X.A (call (.builtin id) (v :: us)) (EP X pins σ Q) X.xe s
/-! ### lists of values -/
theorem Vals.one : ∀ {x : V} {us : List Value}, Vals [x] us → ∃ u, us = [u] ∧ RelV x u
  | _, _, .cons r .nil => ⟨_, rfl, r⟩
theorem Vals.zero : ∀ {us : List Value}, Vals [] us → us = []
  | _, .nil => rfl
theorem Vals.dropLast {xs : List V} {us : List Value} (h : Vals xs us) : Vals xs.dropLast us.dropLast := by
  induction h with
  | nil => exact .nil
  | cons r t ih =>
    cases t with
    | nil => exact .nil
    | cons q t' => exact .cons r ih
theorem Vals.rep {xs : List V} {us : List Value} (h : Vals xs us) : ∀ k : Nat, Vals (List.replicate k xs).flatten (List.replicate k us).flatten
  | 0 => .nil
  | k + 1 => by
    rw [List.replicate_succ, List.replicate_succ, List.flatten_cons, List.flatten_cons]
    exact Vals.append h (Vals.rep h k)
theorem erase_last {α : Type} (l : List α) : l.eraseIdx (l.length - 1) = l.dropLast := by
  induction l with
  | nil => rfl
  | cons a r ih =>
    cases r with
    | nil => rfl
    | cons b r =>
      have e : (a :: b :: r).length - 1 = ((b :: r).length - 1) + 1 := by
        have h1 : (a :: b :: r).length = r.length + 2 := rfl
        have h2 : (b :: r).length = r.length + 1 := rfl
        omega
      rw [e, List.eraseIdx_cons_succ, ih]
      all_goals rfl
theorem foldl_rep (its : List Value) : ∀ (k : Nat) (acc : List Value),
    List.foldl (fun x1 x2 => x1 ++ x2) acc.toArray (List.replicate k its.toArray) = (acc ++ (List.replicate k its).flatten).toArray
  | 0, acc => by simp
  | k + 1, acc => by
    have e : acc.toArray ++ its.toArray = (acc ++ its).toArray := by simp
    have e2 : (acc ++ its) ++ (List.replicate k its).flatten = acc ++ (List.replicate (k + 1) its).flatten := by
      rw [List.replicate_succ, List.flatten_cons, List.append_assoc]
    rw [← e2, ← foldl_rep its k (acc ++ its), ← e, List.replicate_succ, List.foldl_cons]
section
variable {X : Cx} {pins : List (Addr × Obj)} {σ : St} {H : Hp} {s : Shared} {l b : Addr} {xs ys zs : List V}
/-! ### the two steps: a tracked list is rewritten, a new list is laid -/
theorem Inv.lset {its its' : List Value} {n : Nat} {f : Array Value → Array Value} {t' : Nat} (I : Inv X pins σ H s) (hH : H l = some (.lst xs))
    (e : s.heap.get? l = some { cls := .type "list", data := .seq its.toArray n }) (hf : f its.toArray = its'.toArray) (hv : Vals ys its') (hz : ys.length ≤ sizeLine) :
    Inv X pins σ (upd H l (.lst ys)) { s with heap := s.heap.update l (Obj.mapSeq f), toks := t' } := by
  have q := PySem.IsL.update e f
  rw [hf] at q
  refine I.write (x := l) (e := l) (by rw [hH]; exact trivial) (.inl rfl) (fun b' u hb hu => (Heap.get?_update_other s.heap (Obj.mapSeq f) (Ne.symm hb)).trans hu) ⟨_, q⟩ ?_
  exact ⟨hz, its', _, hv, q⟩
theorem Inv.lnew {its : List Value} {t' : Nat} (I : Inv X pins σ H s) (hv : Vals ys its) (hz : ys.length ≤ sizeLine) :
    Inv X pins σ (upd H s.heap.objs.size (.lst ys)) { s with heap := s.heap.push { cls := .type "list", data := .seq its.toArray }, toks := t' } :=
  I.laid (fun _ _ q => Heap.get?_push_of_some _ q) (Nat.le_refl _) ⟨hz, its, 0, hv, Heap.get?_push_size _ rfl⟩
theorem Inv.fresh (I : Inv X pins σ H s) : H s.heap.objs.size = none := I.hok.fresh (Nat.le_refl _)
theorem Inv.lstM (I : Inv X pins σ H s) (hH : H l = some (.lst xs)) : xs.length ≤ sizeLine ∧ ∃ (its : List Value) (n : Nat), Vals xs its ∧ xs.length = its.length ∧ s.heap.get? l = some { cls := .type "list", data := .seq its.toArray n } := by
  obtain ⟨z, its, n, r, e⟩ := I.hok l _ hH
  exact ⟨z, its, n, r, r.length, e⟩
theorem notLongL {n : Nat} (h : n ≤ sizeLine) : Builtin.List.listTooLong n = false := by
  unfold Builtin.List.listTooLong
  exact decide_eq_false (by omega)
end
section
variable {X : Cx}
/-! ### methods -/
def rAppend : V → List V → Hp → VK → Prop := fun x vs H Q => ∃ l xs y, x = .ref l ∧ vs = [y] ∧ H l = some (.lst xs) ∧ xs.length < sizeLine ∧ Q .non (upd H l (.lst (xs ++ [y])))
theorem mt_append : MtM X "list.append" rAppend := by
  intro pins s σ H x vs v us Q I rx rv h
  obtain ⟨l, xs, y, rfl, rfl, hH, hz, q⟩ := h
  cases rx
  obtain ⟨u, rfl, ru⟩ := rv.one
  obtain ⟨z, its, n, r, hl, e⟩ := I.lstM hH
  refine call_meets F.slot_list_append ⟨_, e, rfl⟩ F.entry_list_append (F.args_list_append_2 _ _) (PySem.list_append l its.toArray n u (by rw [List.size_toArray]; omega)) ⟨e, ?_⟩
  refine ⟨.non, _, I.lset (its' := its ++ [u]) hH e (by simp) (r.append (.cons ru .nil)) ?_, rfl, q⟩
  rw [List.length_append, List.length_singleton]
  omega
def rExtend : V → List V → Hp → VK → Prop := fun x vs H Q => ∃ l b xs zs, x = .ref l ∧ vs = [.ref b] ∧ H l = some (.lst xs) ∧ H b = some (.lst zs) ∧ xs.length + zs.length ≤ sizeLine ∧ Q .non (upd H l (.lst (xs ++ zs)))
theorem mt_extend : MtM X "list.extend" rExtend := by
  intro pins s σ H x vs v us Q I rx rv h
  obtain ⟨l, b, xs, zs, rfl, rfl, hH, hB, hz, q⟩ := h
  cases rx
  obtain ⟨u, rfl, ru⟩ := rv.one
  cases ru
  obtain ⟨z, its, n, r, hl, e⟩ := I.lstM hH
  obtain ⟨z2, its2, n2, r2, hl2, e2⟩ := I.lstM hB
  have hsz : its.toArray.size + its2.toArray.size ≤ sizeLine := by rw [List.size_toArray, List.size_toArray]; omega
  have hlong : ¬ (!its.toArray.isEmpty && Builtin.List.listTooLong (its.toArray.size + its2.toArray.size)) = true := by
    rw [notLongL hsz, Bool.and_false]
    exact Bool.false_ne_true
  refine call_meets F.slot_list_extend ⟨_, e, rfl⟩ F.entry_list_extend (F.args_list_extend_2 _ _)
    (AutoSeq1.list_extend_list_list_0 l its.toArray n b its2.toArray n2 hlong (by rw [List.size_toArray]; omega) (by omega)) ⟨e, e2, ?_⟩
  refine ⟨.non, _, I.lset (its' := its ++ its2) hH e (by simp) (r.append r2) ?_, rfl, q⟩
  rw [List.length_append]
  omega
def rPop : V → List V → Hp → VK → Prop := fun x vs H Q => ∃ l xs y, x = .ref l ∧ vs = [] ∧ H l = some (.lst xs) ∧ xs[xs.length - 1]? = some y ∧ Q y (upd H l (.lst xs.dropLast))
theorem mt_pop : MtM X "list.pop" rPop := by
  intro pins s σ H x vs v us Q I rx rv h
  obtain ⟨l, xs, y, rfl, rfl, hH, hy, q⟩ := h
  cases rx
  have hus := rv.zero
  subst hus
  obtain ⟨z, its, n, r, hl, e⟩ := I.lstM hH
  obtain ⟨u, hu, ru⟩ := r.get hy
  have hy' : its.toArray[its.toArray.size - 1]? = some u := by
    show its.toArray[its.length - 1]? = some u
    rw [← Array.getElem?_toList, ← hl]
    exact hu
  refine call_meets F.slot_list_pop ⟨_, e, rfl⟩ F.entry_list_pop (F.args_list_pop_1 _) (MeetsSeq.list_pop_last l its.toArray n u hy' (by rw [List.size_toArray]; omega)) ⟨e, ?_⟩
  refine ⟨y, _, I.lset (its' := its.dropLast) hH e ?_ r.dropLast ?_, ru, q⟩
  · show its.toArray.eraseIdxIfInBounds (its.toArray.size - 1) = its.dropLast.toArray
    rw [List.size_toArray, List.eraseIdxIfInBounds_toArray, erase_last]
  · rw [List.length_dropLast]
    omega
def rClear : V → List V → Hp → VK → Prop := fun x vs H Q => ∃ l xs, x = .ref l ∧ vs = [] ∧ H l = some (.lst xs) ∧ Q .non (upd H l (.lst []))
theorem mt_clear : MtM X "list.clear" rClear := by
  intro pins s σ H x vs v us Q I rx rv h
  obtain ⟨l, xs, rfl, rfl, hH, q⟩ := h
  cases rx
  have hus := rv.zero
  subst hus
  obtain ⟨z, its, n, r, hl, e⟩ := I.lstM hH
  refine call_meets F.slot_list_clear ⟨_, e, rfl⟩ F.entry_list_clear (F.args_list_clear_1 _) (AutoSeq1.list_clear_list_0 l its.toArray n (by rw [List.size_toArray]; omega)) ⟨e, ?_⟩
  exact ⟨.non, _, I.lset (its' := []) (ys := []) hH e rfl .nil (Nat.zero_le _), rfl, q⟩
/-! ### list + list, list += list, list * int -/
def rCat : R2 := fun x y H Q => ∃ l b xs zs, x = .ref l ∧ y = .ref b ∧ H l = some (.lst xs) ∧ H b = some (.lst zs) ∧ xs.length + zs.length ≤ sizeLine ∧ ∀ p, H p = none → Q (.ref p) (upd H p (.lst (xs ++ zs)))
theorem op_cat : OpR X (binaryOp .Add) rCat := by
  intro pins s σ H x y v u Q I rx ry h
  obtain ⟨l, b, xs, zs, rfl, rfl, hH, hB, hz, q⟩ := h
  cases rx
  cases ry
  obtain ⟨z, its, n, r, hl, e⟩ := I.lstM hH
  obtain ⟨z2, its2, n2, r2, hl2, e2⟩ := I.lstM hB
  refine PySem.P.add_list e e2 ?_ (by rw [List.size_toArray, List.size_toArray]; omega)
  have ea : its.toArray ++ its2.toArray = (its ++ its2).toArray := by simp
  rw [ea]
  exact ⟨.ref _, _, I.lnew (t' := s.toks) (r.append r2) (by rw [List.length_append]; omega), rfl, q _ I.fresh⟩
/-- a list times an int (a negative one is nothing) -/
def rRep : R2 := fun x y H Q => ∃ l k xs, x = .ref l ∧ y = .int k ∧ H l = some (.lst xs) ∧ -(2 ^ 63) ≤ k ∧ k < 2 ^ 63 ∧ xs.length * k.toNat ≤ sizeLine ∧
  ∀ p, H p = none → Q (.ref p) (upd H p (.lst (List.replicate k.toNat xs).flatten))
theorem len_rep {α : Type} (xs : List α) (k : Nat) : (List.replicate k xs).flatten.length = k * xs.length := by
  induction k with
  | zero => simp
  | succ k ih => rw [List.replicate_succ, List.flatten_cons, List.length_append, ih, Nat.succ_mul, Nat.add_comm]
theorem op_rep : OpR X (binaryOp .Mult) rRep := by
  intro pins s σ H x y v u Q I rx ry h
  obtain ⟨l, k, xs, rfl, rfl, hH, h1, h2, hz, q⟩ := h
  cases rx
  obtain ⟨t, rfl⟩ := ry
  obtain ⟨z, its, n, r, hl, e⟩ := I.lstM hH
  have hlen : its.toArray.size * k.toNat ≤ sizeLine := by rw [List.size_toArray, ← hl]; exact hz
  have hcap : ¬ its.toArray.size * k.toNat > (2 ^ 63 - 1) / 8 := by
    have : (sizeLine : Nat) ≤ (2 ^ 63 - 1) / 8 := by decide
    omega
  have hfit : ¬ (!Builtin.List.listFitsIndex k) = true := by
    rw [fitsIndex_both h1 h2]
    exact Bool.false_ne_true
  have hlong : ¬ Builtin.List.listTooLong (its.toArray.size * k.toNat) = true := by
    rw [notLongL hlen]
    exact Bool.false_ne_true
  have hnew : List.foldl (fun x1 x2 => x1 ++ x2) #[] (List.replicate (if its.toArray.isEmpty = true then 0 else k.toNat) its.toArray) = (List.replicate k.toNat its).flatten.toArray := by
    have f0 : ∀ m : Nat, List.foldl (fun x1 x2 => x1 ++ x2) #[] (List.replicate m its.toArray) = (List.replicate m its).flatten.toArray := fun m => by
      have := foldl_rep its m []
      rw [List.nil_append] at this
      exact this
    rw [f0]
    cases its with
    | nil => simp
    | cons a r' => rw [if_neg (by simp)]
  refine wpAny_binaryOp_repeat_ref (T := "list") (U := "int") (by decide) ⟨_, e, rfl⟩ (fun s' => typeIs_int s' k t) noFill_list_mul F.fills_int_mul F.slot_int_rmul repeat_list F.slot_int_index.lookup
    (call_meets F.slot_int_rmul (typeIs_int s k t) F.entry_int_rmul (F.args_int_rmul_2 _ _) (int___rmul___int_list k t l its.toArray n)
      ⟨e, rfl, ⟨_, e, rfl⟩, call_meets F.slot_list_mul ⟨_, e, rfl⟩ F.entry_list_mul (F.args_list_mul_2 _ _) (AutoListH.list___mul___list_int_3 l its.toArray n k t hfit hcap hlong) ⟨e, ?_⟩⟩)
  rw [hnew]
  exact ⟨.ref _, _, I.lnew (t' := s.toks) (r.rep k.toNat) (by rw [len_rep, Nat.mul_comm]; exact hz), rfl, q _ I.fresh⟩
/-! ### del xs[i] -/
end
/-! ### xs[a:b] = ys -/
section
variable {prog : Program} {w : World} {A : Around} {E : Value → Shared → Prop} {s : Shared}
set_option maxRecDepth 100000 in
end
section
variable {X : Cx}
end
end L2
namespace L2
open PySem PySem.Spec PyProof.Rows
theorem Vals.ints : ∀ {ns : List Int} {us : List Value}, Vals (ns.map V.int) us → IntsAre us ns
  | [], us, h => by
    rw [List.map_nil] at h
    cases h
    exact IntsAre.nil
  | n :: ns, us, h => by
    rw [List.map_cons] at h
    cases h with
    | cons r t =>
      obtain ⟨k, rfl⟩ := r
      exact IntsAre.cons n k (Vals.ints t)
theorem vals_of_ints : ∀ {us : List Value} {ns : List Int}, IntsAre us ns → Vals (ns.map V.int) us
  | _, _, .nil => by rw [List.map_nil]; exact Paired.nil
  | _, _, .cons n t h => by rw [List.map_cons]; exact Paired.cons (show RelV (V.int n) (Value.int n t) from ⟨t, rfl⟩) (vals_of_ints h)
theorem Vals.bls : ∀ {bs : List Bool} {us : List Value}, Vals (bs.map V.bl) us → us = bs.map Value.bool
  | [], us, h => by
    rw [List.map_nil] at h
    cases h
    rfl
  | b :: bs, us, h => by
    rw [List.map_cons] at h
    cases h with
    | cons r t =>
      cases r
      rw [Vals.bls t, List.map_cons]
theorem Vals.ref1 {a : Addr} {us : List Value} (r : Vals [V.ref a] us) : us = [Value.ref a] := by
  cases r with
  | cons r t =>
    cases t
    cases r
    rfl
theorem Vals.int2 {i j : Int} {us : List Value} (r : Vals [V.int i, V.int j] us) : ∃ t u, us = [Value.int i t, Value.int j u] := by
  cases r with
  | cons r t =>
    cases t with
    | cons r2 t2 =>
      cases t2
      obtain ⟨t, rfl⟩ := r
      obtain ⟨u, rfl⟩ := r2
      exact ⟨t, u, rfl⟩
/-! ### the library's walks over a list of ints, kept objects alone -/
section
variable {prog : Program} {w : World} {A : Around} {E : Value → Shared → Prop} {s : Shared} {l : Addr} {its : List Value} {ns : List Int} {Q : Value → Shared → Prop}
theorem sum_raw (hh : A.handled = none) (hl : s.heap.IsList l its.toArray) (hi : IntsAre its ns)
    (h : ∀ h' tk t', (∀ b o, s.heap.get? b = some o → h'.get? b = some o) → Q (.int ns.sum t') { s with heap := h', toks := tk }) : wpAny (model prog w) A (call (.builtin "sum") [.ref l]) Q E s := by
  obtain ⟨xs, e⟩ := hi.allInts.items
  have hn : numsOf (intItems xs).toList = ns := by rw [← e]; exact hi.numsOf
  rw [nums_intItems] at hn
  rw [e] at hl
  refine PySem.sum_intListG hh hl fun h' tk t' hk => ?_
  have := h h' tk t' hk
  rw [preSum_eq, List.take_of_length_le (by simp), hn]; exact this
theorem max_raw (hh : A.handled = none) (hl : s.heap.IsList l its.toArray) (hi : IntsAre its ns) (hne : 0 < ns.length)
    (h : ∀ h' tk M t', (∀ b o, s.heap.get? b = some o → h'.get? b = some o) → M ∈ ns → (∀ a, a ∈ ns → a ≤ M) → Q (.int M t') { s with heap := h', toks := tk }) : wpAny (model prog w) A (call (.builtin "max") [.ref l]) Q E s := by
  obtain ⟨xs, e⟩ := hi.allInts.items
  have hn : numsOf (intItems xs).toList = ns := by rw [← e]; exact hi.numsOf
  rw [nums_intItems] at hn
  subst hn
  rw [e] at hl
  have hsz : 0 < xs.size := by simpa using hne
  refine PySem.max_intList hh hl hsz fun v h' tk hv hk => ?_
  obtain ⟨t, rfl⟩ := intItems_at hv
  obtain ⟨h1, h2⟩ := argBest_gt (numAt xs) (xs.size - 1)
  refine h h' tk _ t hk ?_ fun a ha => ?_
  · rw [numAt_eq]; exact PySem.getD_mem (by rw [List.length_map, Array.length_toList]; omega)
  · obtain ⟨j, hj, rfl⟩ := mem_getD ha
    rw [List.length_map, Array.length_toList] at hj
    rw [← numAt_eq]; exact h2 j (by omega)
theorem min_raw (hh : A.handled = none) (hl : s.heap.IsList l its.toArray) (hi : IntsAre its ns) (hne : 0 < ns.length)
    (h : ∀ h' tk M t', (∀ b o, s.heap.get? b = some o → h'.get? b = some o) → M ∈ ns → (∀ a, a ∈ ns → M ≤ a) → Q (.int M t') { s with heap := h', toks := tk }) : wpAny (model prog w) A (call (.builtin "min") [.ref l]) Q E s := by
  obtain ⟨xs, e⟩ := hi.allInts.items
  have hn : numsOf (intItems xs).toList = ns := by rw [← e]; exact hi.numsOf
  rw [nums_intItems] at hn
  subst hn
  rw [e] at hl
  have hsz : 0 < xs.size := by simpa using hne
  refine PySem.min_intList hh hl hsz fun v h' tk hv hk => ?_
  obtain ⟨t, rfl⟩ := intItems_at hv
  obtain ⟨h1, h2⟩ := argBest_lt (numAt xs) (xs.size - 1)
  refine h h' tk _ t hk ?_ fun a ha => ?_
  · rw [numAt_eq]; exact PySem.getD_mem (by rw [List.length_map, Array.length_toList]; omega)
  · obtain ⟨j, hj, rfl⟩ := mem_getD ha
    rw [List.length_map, Array.length_toList] at hj
    rw [← numAt_eq]; exact h2 j (by omega)
end
/-! ### the calls, by values (CallR of 03t; MtR of 06l) -/
section
variable {X : Cx}
/-- sum(xs) of a list of ints -/
def rSum (K : PySem.W.Frag) : List V → Hp → VK → Prop := fun vs H Q => ∃ (a : Addr) (ns : List Int), vs = [V.ref a] ∧ SqL K H a (ns.map V.int) ∧ Q (.int ns.sum) H
/-- max(xs), min(xs) of a list of ints -/
def rMax (K : PySem.W.Frag) : List V → Hp → VK → Prop := fun vs H Q => ∃ (a : Addr) (ns : List Int), vs = [V.ref a] ∧ SqL K H a (ns.map V.int) ∧ 0 < ns.length ∧ ∀ m, m ∈ ns → (∀ y, y ∈ ns → y ≤ m) → Q (.int m) H
def rMin (K : PySem.W.Frag) : List V → Hp → VK → Prop := fun vs H Q => ∃ (a : Addr) (ns : List Int), vs = [V.ref a] ∧ SqL K H a (ns.map V.int) ∧ 0 < ns.length ∧ ∀ m, m ∈ ns → (∀ y, y ∈ ns → m ≤ y) → Q (.int m) H
theorem cr_sum (hc : X.calm = true) : CallR X (.builtin "sum") (rSum X.K) := by
  intro pins s σ H vs us Q I r h
  obtain ⟨a, ns, rfl, hs, q⟩ := h
  obtain ⟨its, rv, hl, _⟩ := I.list hs
  rw [Vals.ref1 r]
  exact sum_raw (I.ok.hd hc) hl.isList rv.ints fun h' tk t' hk => ⟨.int _, H, I.kept hk, ⟨_, rfl⟩, q⟩
theorem cr_max (hc : X.calm = true) : CallR X (.builtin "max") (rMax X.K) := by
  intro pins s σ H vs us Q I r h
  obtain ⟨a, ns, rfl, hs, hne, q⟩ := h
  obtain ⟨its, rv, hl, _⟩ := I.list hs
  rw [Vals.ref1 r]
  exact max_raw (I.ok.hd hc) hl.isList rv.ints hne fun h' tk m t' hk h1 h2 => ⟨.int _, H, I.kept hk, ⟨_, rfl⟩, q m h1 h2⟩
theorem cr_min (hc : X.calm = true) : CallR X (.builtin "min") (rMin X.K) := by
  intro pins s σ H vs us Q I r h
  obtain ⟨a, ns, rfl, hs, hne, q⟩ := h
  obtain ⟨its, rv, hl, _⟩ := I.list hs
  rw [Vals.ref1 r]
  exact min_raw (I.ok.hd hc) hl.isList rv.ints hne fun h' tk m t' hk h1 h2 => ⟨.int _, H, I.kept hk, ⟨_, rfl⟩, q m h1 h2⟩
/-! sorted, sort (fewer than 64 items: the library's own bound) -/
def rSorted (K : PySem.W.Frag) : List V → Hp → VK → Prop := fun vs H Q => ∃ (a : Addr) (ns : List Int), vs = [V.ref a] ∧ SqL K H a (ns.map V.int) ∧ ns.length < 64 ∧
  ∀ (ns' : List Int) (p : Addr), ns'.Perm ns → ns'.Pairwise (· ≤ ·) → H p = none → Q (.ref p) (upd H p (.lst (ns'.map V.int)))
theorem small64 {n : Nat} (h : n < 64) : n ≤ sizeLine := by rw [sizeLine_eq]; omega
theorem cr_sorted : CallR X (.builtin "sorted") (rSorted X.K) := by
  intro pins s σ H vs us Q I r h
  obtain ⟨a, ns, rfl, hs, h64, q⟩ := h
  obtain ⟨its, rv, hl, _⟩ := I.list hs
  rw [Vals.ref1 r]
  have hi := rv.ints
  refine PyProof.Rows.sorted_ints hl.isList hi (by rw [hi.length]; exact h64) fun out ns' h1 h2 h3 => ?_
  obtain ⟨ep, he'⟩ := PyProof.Rows.sortedAll_at s.heap its out
  have hlen : (ns'.map V.int).length ≤ sizeLine := by rw [List.length_map, h2.length_eq]; exact small64 h64
  exact ⟨.ref _, upd H (s.heap.objs.size + 1) (.lst (ns'.map V.int)), I.laid (t' := s.toks) (fun _ _ => PyProof.Rows.sortedAll_old) (Nat.le_succ _) ⟨hlen, out.toList, ep, vals_of_ints h1, he'⟩, rfl, q ns' _ h2 h3 (I.hok.fresh (Nat.le_succ _))⟩
end
/-! ### list.index, flat items -/
section
variable {X : Cx}
end
/-! ### type(x) of an own instance; is, is not of a module's class -/
section
variable {X : Cx}
end
/-! ### any(xs), all(xs) of a list of bools -/
theorem iter_any {prog : Program} {w : World} {A : Around} {E : Value → Shared → Prop} {s : Shared} {l : Addr} {items : Array Value} {Q : Value → Shared → Prop} (hl : s.heap.IsList l items)
    (h : ∀ s₂ : Shared, s₂ = { s with heap := s.heap.push { cls := .type "list_iterator", data := .fields #[.ref l, .int 0 0] } } →
      (s₂.heap.IsListIter s.heap.objs.size l 0 ∧ s₂.heap.IsList l items) → l ≠ s.heap.objs.size → Q (.ref s.heap.objs.size) s₂) : wpAny (model prog w) A (pyIter (.ref l)) Q E s := by
  have hlt : l < s.heap.objs.size := by obtain ⟨_, e, _⟩ := hl; exact Heap.lt_size e
  exact wpAny_pyIter_list hl (h _ rfl ⟨⟨_, Heap.get?_push_size _ rfl, rfl, rfl⟩, hl.push _⟩ (Nat.ne_of_lt hlt))
theorem truth_bools {prog : Program} {w : World} {A : Around} {bs : List Bool} {its : List Value} (e : its = bs.map Value.bool) :
    TruthOf prog w A (fun i v => its.toArray[i]? = some v) (fun i => bs.getD i false) := fun i v s Q E hv hq => by
  have hv' : its[i]? = some v := by simpa using hv
  rw [e, List.getElem?_map] at hv'
  obtain ⟨b, hb, rfl⟩ := Option.map_eq_some_iff.mp hv'
  have hg : bs.getD i false = b := by rw [List.getD_eq_getElem?_getD, hb] <;> rfl
  have hq' : Q (bs.getD i false) s := hq
  rw [hg] at hq'
  exact wpAny_truthy_bool hq'
theorem all_range : ∀ bs : List Bool, (List.range bs.length).all (fun i => bs.getD i false) = bs.all id
  | [] => rfl
  | b :: bs => by
    rw [List.length_cons, List.range_succ_eq_map, List.all_cons, List.all_map, List.all_cons, ← all_range bs]
    all_goals rfl
section
variable {X : Cx}
def rAll (K : PySem.W.Frag) : List V → Hp → VK → Prop := fun vs H Q => ∃ (a : Addr) (bs : List Bool), vs = [V.ref a] ∧ SqL K H a (bs.map V.bl) ∧ Q (.bl (bs.all id)) H
theorem cr_all (hc : X.calm = true) : CallR X (.builtin "all") (rAll X.K) := by
  intro pins s σ H vs us Q I r h
  obtain ⟨a, bs, rfl, hs, q⟩ := h
  obtain ⟨its, rv, hl, _⟩ := I.list hs
  rw [Vals.ref1 r]
  have hb := rv.bls
  refine call_all_walk (iter_any hl.isList fun s₂ e2 st hne => ?_)
  subst e2
  refine ⟨_, _, _, _, _, _, _, rfl, Walks.list (A := X.A.in1) (I.ok.hd hc) _ a hne its.toArray, st, truth_bools hb, fun h' tk hk => ?_⟩
  refine ⟨.bl _, H, I.kept fun b o eo => hk b o (fun hmem => ?_) (Heap.get?_push_of_some _ eo), ?_, q⟩
  · rcases List.mem_cons.mp hmem with e1 | hmem
    · exact absurd (e1 ▸ Heap.lt_size eo) (Nat.lt_irrefl _)
    · cases hmem
  · show Value.bool _ = Value.bool _
    rw [← all_range, hb, List.size_toArray, List.length_map]
end
/-! ### == and != of data at any depth: none, bools, ints, texts, lists, tuples -/
section
variable {X : Cx} {pins : List (Addr × Obj)} {σ : St} {H : Hp} {s : Shared}
end
section
variable {X : Cx}
end
end L2
namespace L2
open PySem PySem.Spec PyProof.Rows
abbrev CellAt (h : Heap) (c : Addr) (v : Option Value) : Prop := h.IsCell c v
def relS (scope sc : Scope) : Scope :=
  { scope with names := scope.names.map fun (n, k) => if (k == .free && sc.kind == .function && sc.names.lookup n == some .cell) then (n, .cell) else (n, k) }
def cloFrom (cells : List (Str × Addr)) : List (Str × NameKind) → List (Str × Addr) → List (Str × Addr)
  | [], acc => acc
  | (n, k) :: r, acc => if k == .free then cloFrom cells r ((n, (cells.lookup n).getD 0) :: acc) else cloFrom cells r acc
theorem closure_loop (env : Env) (f : Str × NameKind → List (Str × Addr) → Sem (ForInStep (List (Str × Addr))))
    (hf : ∀ n k c, f (n, k) c = if k == .free then (do let a ← cellOf env n; pure (.yield ((n, a) :: c))) else pure (.yield c)) :
    ∀ (names : List (Str × NameKind)) (acc : List (Str × Addr)), (∀ y ∈ names, y.2 = .free → ∃ c, env.cells.lookup y.1 = some c) → forIn names acc f = pure (cloFrom env.cells names acc)
  | [], acc, _ => by rw [List.forIn_nil]; rfl
  | (n, k) :: r, acc, h => by
    rw [List.forIn_cons, hf]
    have ih := fun acc => closure_loop env f hf r acc fun y hy => h y (List.mem_cons_of_mem _ hy)
    unfold cloFrom
    by_cases hk : (k == NameKind.free) = true
    · rw [if_pos hk, if_pos hk]
      obtain ⟨c, hc⟩ := h (n, k) List.mem_cons_self (by simpa using hk)
      have e : cellOf env n = pure c := by unfold cellOf; rw [hc]
      rw [e]
      have e2 : (env.cells.lookup n).getD 0 = c := by rw [hc]; rfl
      rw [e2]
      exact ih _
    · rw [if_neg hk, if_neg hk]
      exact ih _
theorem closure_ok {scope : Scope} {env : Env} (h : ∀ y ∈ scope.names, y.2 = .free → ∃ c, env.cells.lookup y.1 = some c) : closureFor scope env = pure (cloFrom env.cells scope.names []) := by
  simp only [closureFor]
  rw [closure_loop env _ (fun n k c => rfl) scope.names [] h]
  rfl
theorem mem_lookup {α : Type} : ∀ {l : List (Str × α)} {n : Str} {c : α}, (n, c) ∈ l → ∃ c', l.lookup n = some c'
  | (k, v) :: r, n, c, h => by
    rw [List.lookup_cons]
    cases hb : n == k with
    | true => exact ⟨_, rfl⟩
    | false =>
      rcases List.mem_cons.mp h with e | h
      · cases e; simp at hb
      · exact mem_lookup h
theorem cloFrom_mem {cells : List (Str × Addr)} : ∀ {names : List (Str × NameKind)} {acc : List (Str × Addr)} {n : Str} {c : Addr}, (n, c) ∈ cloFrom cells names acc → (n, c) ∈ acc ∨ ((n, .free) ∈ names ∧ c = (cells.lookup n).getD 0)
  | [], _, _, _, h => .inl h
  | (m, k) :: r, acc, n, c, h => by
    unfold cloFrom at h
    split at h
    · rename_i hk
      have hk : k = .free := by simpa using hk
      rcases cloFrom_mem h with h | ⟨h1, h2⟩
      · rcases List.mem_cons.mp h with e | h
        · cases e; exact .inr ⟨hk ▸ List.mem_cons_self, rfl⟩
        · exact .inl h
      · exact .inr ⟨List.mem_cons_of_mem _ h1, h2⟩
    · rcases cloFrom_mem h with h | ⟨h1, h2⟩
      · exact .inl h
      · exact .inr ⟨List.mem_cons_of_mem _ h1, h2⟩
theorem cloFrom_acc {cells : List (Str × Addr)} : ∀ {names : List (Str × NameKind)} {acc : List (Str × Addr)} {p : Str × Addr}, p ∈ acc → p ∈ cloFrom cells names acc
  | [], _, _, h => h
  | (m, k) :: r, acc, p, h => by
    unfold cloFrom
    split
    · exact cloFrom_acc (List.mem_cons_of_mem _ h)
    · exact cloFrom_acc h
theorem cloFrom_has {cells : List (Str × Addr)} : ∀ {names : List (Str × NameKind)} {acc : List (Str × Addr)} {n : Str}, (n, .free) ∈ names → (n, (cells.lookup n).getD 0) ∈ cloFrom cells names acc
  | (m, k) :: r, acc, n, h => by
    unfold cloFrom
    rcases List.mem_cons.mp h with e | h
    · cases e
      exact cloFrom_acc List.mem_cons_self
    · split
      · exact cloFrom_has h
      · exact cloFrom_has h
theorem cells_mem : ∀ {names : List (Str × NameKind)} {h : Heap} {acc : List (Str × Addr)} {x : Str} {c : Addr}, (x, c) ∈ cellsFrom h.objs.size names acc →
    (x, c) ∈ acc ∨ ((x, .cell) ∈ names ∧ h.objs.size ≤ c ∧ CellAt (pushCells h names) c none)
  | [], _, _, _, _, h => .inl h
  | (n, k) :: r, h, acc, x, c, hm => by
    unfold cellsFrom at hm
    unfold pushCells
    split at hm
    · rename_i hk
      rw [if_pos hk]
      have hk : k = .cell := by simpa using hk
      rw [← Heap.size_push h { cls := .type "cell", data := .cell none }] at hm
      rcases cells_mem hm with hm | ⟨h1, h2, h3⟩
      · rcases List.mem_cons.mp hm with e | hm
        · cases e
          exact .inr ⟨hk ▸ List.mem_cons_self, Nat.le_refl _, _, pushCells_keeps r _ _ _ (Heap.get?_push_size _ rfl), rfl⟩
        · exact .inl hm
      · rw [Heap.size_push] at h2
        exact .inr ⟨List.mem_cons_of_mem _ h1, Nat.le_of_succ_le h2, h3⟩
    · rename_i hk
      rw [if_neg hk]
      rcases cells_mem hm with hm | ⟨h1, h2, h3⟩
      · exact .inl hm
      · exact .inr ⟨List.mem_cons_of_mem _ h1, h2, h3⟩
theorem cells_acc : ∀ {names : List (Str × NameKind)} {n : Nat} {acc : List (Str × Addr)} {p : Str × Addr}, p ∈ acc → p ∈ cellsFrom n names acc
  | [], _, _, _, h => h
  | (m, k) :: r, n, acc, p, h => by
    unfold cellsFrom
    split
    · exact cells_acc (List.mem_cons_of_mem _ h)
    · exact cells_acc h
theorem cells_has : ∀ {names : List (Str × NameKind)} {n : Nat} {acc : List (Str × Addr)} {x : Str}, (x, .cell) ∈ names → ∃ c, (x, c) ∈ cellsFrom n names acc
  | (m, k) :: r, n, acc, x, h => by
    unfold cellsFrom
    rcases List.mem_cons.mp h with e | h
    · cases e
      exact ⟨n, cells_acc List.mem_cons_self⟩
    · split
      · exact cells_has h
      · exact cells_has h
theorem cells_inj : ∀ {names : List (Str × NameKind)} {h : Heap} {acc : List (Str × Addr)} {x y : Str} {c : Addr}, (∀ p ∈ acc, p.2 < h.objs.size) → (∀ x y c, (x, c) ∈ acc → (y, c) ∈ acc → x = y) →
    (x, c) ∈ cellsFrom h.objs.size names acc → (y, c) ∈ cellsFrom h.objs.size names acc → x = y
  | [], _, _, _, _, _, _, hi, h1, h2 => hi _ _ _ h1 h2
  | (n, k) :: r, h, acc, x, y, c, hl, hi, h1, h2 => by
    unfold cellsFrom at h1 h2
    split at h1
    · rename_i hk
      rw [if_pos hk] at h2
      rw [← Heap.size_push h { cls := .type "cell", data := .cell none }] at h1 h2
      refine cells_inj (h := h.push _) (fun p hp => ?_) (fun x y c a b => ?_) h1 h2
      · rw [Heap.size_push]
        rcases List.mem_cons.mp hp with rfl | hp
        · exact Nat.lt_succ_self _
        · exact Nat.lt_succ_of_lt (hl p hp)
      · rcases List.mem_cons.mp a with e | a <;> rcases List.mem_cons.mp b with e' | b
        · cases e; cases e'; rfl
        · cases e; exact absurd (hl _ b) (Nat.lt_irrefl _)
        · cases e'; exact absurd (hl _ a) (Nat.lt_irrefl _)
        · exact hi _ _ _ a b
    · rename_i hk
      rw [if_neg hk] at h2
      exact cells_inj hl hi h1 h2
theorem newEnv_comp {M : Model} {A : Around} {E : Value → Shared → Prop} {s : Shared} {scope : Scope} {globals : Addr} {closure : List (Str × Addr)} {qual : Str} {func : Option Addr} {code : Value} {around : Env} {builtins : Addr} {Q : Env → Shared → Prop}
    (h : Q (newEnv scope s.heap.objs.size globals (cellsFrom (s.heap.objs.size + 1) scope.names closure) qual func code (some around) builtins)
      { s with heap := pushCells (s.heap.push { cls := .type "dict", data := .dict #[] }) scope.names }) :
    wpAny M A (newFunctionEnv scope globals closure [] qual func code (some around) builtins) Q E s := by
  simp only [newFunctionEnv, Option.isSome_some, if_true]
  refine wpAny_bind (wpAny_alloc ?_)
  refine wpAny_bind (wpAny_layCells _ (fun n k c => rfl) scope.names closure _ _ ?_)
  rw [show ({ s with heap := s.heap.push { cls := .type "dict", data := .dict #[] } } : Shared).heap.objs.size = s.heap.objs.size + 1 from Heap.size_push ..]
  rw [List.forIn_nil]
  exact wpAny_bind (wpAny_pure (wpAny_pure h))
/-- every name of the written scope, in the scope that runs -/
theorem lookup_relS {sc : Scope} : ∀ {names : List (Str × NameKind)} {x : Str} {k : NameKind},
    (names.map fun (n, k) => if (k == NameKind.free && sc.kind == .function && sc.names.lookup n == some .cell) then (n, NameKind.cell) else (n, k)).lookup x = some k →
    ∃ k', names.lookup x = some k' ∧ (k = k' ∨ (k' = .free ∧ k = .cell))
  | [], _, _, h => by simp at h
  | (n, k₀) :: r, x, k, h => by
    have ih := @lookup_relS sc r x k
    have h' : List.lookup x ((if (k₀ == NameKind.free && sc.kind == .function && sc.names.lookup n == some .cell) = true then (n, NameKind.cell) else (n, k₀)) :: (r.map _)) = some k := h
    cases hx : x == n with
    | true =>
      simp only [List.lookup_cons, hx]
      by_cases hc : (k₀ == NameKind.free && sc.kind == .function && sc.names.lookup n == some .cell) = true
      · rw [if_pos hc] at h'
        simp only [List.lookup_cons, hx] at h'
        cases h'
        simp only [Bool.and_eq_true, beq_iff_eq] at hc
        exact ⟨k₀, rfl, .inr ⟨hc.1.1, rfl⟩⟩
      · rw [if_neg hc] at h'
        simp only [List.lookup_cons, hx] at h'
        cases h'
        exact ⟨_, rfl, .inl rfl⟩
    | false =>
      simp only [List.lookup_cons, hx]
      by_cases hc : (k₀ == NameKind.free && sc.kind == .function && sc.names.lookup n == some .cell) = true
      · rw [if_pos hc] at h'
        simp only [List.lookup_cons, hx] at h'
        exact ih h'
      · rw [if_neg hc] at h'
        simp only [List.lookup_cons, hx] at h'
        exact ih h'
/-- the names of a comprehension's block: its own (with their places in N), or captured -/
structure BlkOk (N : List Str) (sc scope : Scope) (own : List (Str × Nat)) : Prop where
  kind : scope.kind = .function
  uniq : ∀ y ∈ scope.names, scope.names.lookup y.1 = some y.2
  ix : ∀ p ∈ own, N[p.2]? = some p.1
  free : ∀ y ∈ scope.names, y.2 = .free → sc.names.lookup y.1 = some .cell ∨ sc.names.lookup y.1 = some .free
  own : ∀ y ∈ scope.names, y.2 = .local ∨ y.2 = .cell → y.1 ∈ own.map (·.1) ∨ y.1 ∉ N
/-- the slots of the block's own names forgotten -/
def wipe (σ : St) : List Nat → St
  | [] => σ
  | v :: vs => (wipe σ vs).set v none
theorem wipe_length (σ : St) : ∀ vs : List Nat, (wipe σ vs).length = σ.length
  | [] => rfl
  | v :: vs => by unfold wipe; rw [List.length_set, wipe_length σ vs]
theorem wipe_some {σ : St} {i : Nat} {x : V} : ∀ {vs : List Nat}, (wipe σ vs)[i]? = some (some x) → σ[i]? = some (some x) ∧ i ∉ vs
  | [], h => ⟨h, by simp⟩
  | v :: vs, h => by
    unfold wipe at h
    by_cases hi : v = i
    · subst hi
      by_cases hv : v < (wipe σ vs).length
      · rw [List.getElem?_set_self hv] at h; cases h
      · rw [List.getElem?_eq_none (by simpa using hv)] at h; cases h
    · rw [List.getElem?_set_ne hi] at h
      obtain ⟨h1, h2⟩ := wipe_some h
      exact ⟨h1, by simp only [List.mem_cons, not_or]; exact ⟨fun e => hi e.symm, h2⟩⟩
/-- the context of a block that starts at s, its iterator's objects at fp -/
abbrev Cx.blk (X : Cx) (s : Shared) (H : Hp) (scope : Scope) (cenv : Env) (fp : List Addr) : Cx := { X with s_0 := s, H_0 := H, env := cenv, outer := X.stack, ex := fp, fn := fun x => scope.names.lookup x == some .cell, pn := [], xe := fun _ _ => False }
section
variable {X : Cx} {pins : List (Addr × Obj)} {σ : St} {H : Hp} {s : Shared}
theorem block_start {scope : Scope} {own : List (Str × Nat)} {fp : List Addr} (I : Inv X pins σ H s) (ok : BlkOk X.N X.env.scope scope own) (hN : X.N.Nodup) (hfp : ∀ b ∈ fp, FpOk X pins H b ∧ b < s.heap.objs.size) :
    Inv (X.blk s H scope (compEnvC scope (cellsFrom (s.heap.objs.size + 1) scope.names (cloFrom X.env.cells scope.names [])) s.heap.objs.size X.env) fp) [] (wipe σ (own.map (·.2))) H { s with heap := pushCells (s.heap.push { cls := .type "dict", data := .dict #[] }) scope.names } := by
  have hfree : ∀ y ∈ scope.names, y.2 = .free → ∃ c, X.env.cells.lookup y.1 = some c := fun y hy e => by
    rcases ok.free y hy e with k | k
    · exact I.ok.has _ (.inl k)
    · exact I.ok.has _ (.inr k)
  generalize hcenv : compEnvC scope (cellsFrom (s.heap.objs.size + 1) scope.names (cloFrom X.env.cells scope.names [])) s.heap.objs.size X.env = cenv
  have kp : ∀ b o, s.heap.get? b = some o → (pushCells (s.heap.push { cls := .type "dict", data := .dict #[] }) scope.names).get? b = some o := fun b o e => pushCells_keeps _ _ _ _ (Heap.get?_push_of_some _ e)
  have hL : cenv.locals = s.heap.objs.size := by rw [← hcenv]; rfl
  have hcl : cenv.cells = cellsFrom (s.heap.objs.size + 1) scope.names (cloFrom X.env.cells scope.names []) := by rw [← hcenv]; rfl
  have hsc : cenv.scope = relS scope X.env.scope := by rw [← hcenv]; rfl
  rw [← Heap.size_push s.heap { cls := .type "dict", data := .dict #[] }] at hcl
  have cm : ∀ {y c}, (y, c) ∈ cloFrom X.env.cells scope.names [] → X.env.cells.lookup y = some c ∧ c < s.heap.objs.size := fun {y c} hm => by
    rcases cloFrom_mem hm with hm | ⟨h1, rfl⟩
    · cases hm
    · obtain ⟨c, hc⟩ := hfree _ h1 rfl
      rw [hc]
      obtain ⟨w, z⟩ := I.cell _ _ hc
      exact ⟨rfl, z.lt⟩
  have mem : ∀ {y c}, cenv.cells.lookup y = some c → (X.env.cells.lookup y = some c ∧ c < s.heap.objs.size) ∨ (s.heap.objs.size + 1 ≤ c ∧ CellAt (pushCells (s.heap.push { cls := .type "dict", data := .dict #[] }) scope.names) c none) := fun {y c} e => by
    rw [hcl] at e
    rcases cells_mem (PySem.mem_of_lookup e) with hm | ⟨_, h2, h3⟩
    · exact .inl (cm hm)
    · rw [Heap.size_push] at h2; exact .inr ⟨h2, h3⟩
  have look : ∀ {y}, scope.names.lookup y = some .free → ∃ c, cenv.cells.lookup y = some c ∧ X.env.cells.lookup y = some c := fun {y} hl => by
    have hy : (y, NameKind.free) ∈ scope.names := PySem.mem_of_lookup hl
    obtain ⟨c', e'⟩ := mem_lookup (cells_acc (names := scope.names) (n := (s.heap.push { cls := .type "dict", data := .dict #[] }).objs.size) (cloFrom_has (cells := X.env.cells) (acc := []) hy))
    rw [← hcl] at e'
    refine ⟨c', e', ?_⟩
    rw [hcl] at e'
    rcases cells_mem (PySem.mem_of_lookup e') with hm | ⟨h1, _, _⟩
    · exact (cm hm).1
    · have := ok.uniq _ h1
      rw [hl] at this; cases this
  have okB : (X.blk s H scope cenv fp).Ok := by
    refine ⟨I.ok.mod, by show cenv.scope.kind = _; rw [hsc]; exact ok.kind, by show cenv.globals = _; rw [← hcenv]; exact I.ok.glob, by show cenv.builtins = _; rw [← hcenv]; exact I.ok.blt, by show s.heap.objs.size ≤ cenv.locals; rw [hL]; exact Nat.le_refl _,
      fun y z c e1 e2 => ?_, fun y hy => ?_, fun y c z e => ?_, I.ok.hd, I.ok.frames, .inl rfl, fun b hb => ⟨?_, fun y c e z => ?_⟩, I.bs, Nat.le_trans I.ok.bsz I.sz, fun b o e hb => ?_, fun b hb z => ?_, I.stack, I.stkFree⟩
    · have e1 : cenv.cells.lookup y = some c := e1
      have e2 : cenv.cells.lookup z = some c := e2
      rw [hcl] at e1 e2
      refine cells_inj (fun p hp => ?_) (fun y z c a b => I.ok.inj y z c (cm a).1 (cm b).1) (PySem.mem_of_lookup e1) (PySem.mem_of_lookup e2)
      rw [Heap.size_push]
      exact Nat.lt_succ_of_lt (cm (y := p.1) (c := p.2) hp).2
    · show ∃ c, cenv.cells.lookup y = some c
      have key : ∀ k, cenv.kindOf y = some k → (k = .cell ∨ k = .free) → ∃ c, cenv.cells.lookup y = some c := fun k hk hk' => by
        unfold Env.kindOf at hk
        rw [hsc] at hk
        obtain ⟨k', e, r⟩ := lookup_relS hk
        have : k' = .cell ∨ k' = .free := by
          rcases r with rfl | ⟨rfl, _⟩
          · exact hk'
          · exact .inr rfl
        rcases this with rfl | rfl
        · obtain ⟨c, hm⟩ := cells_has (n := (s.heap.push { cls := .type "dict", data := .dict #[] }).objs.size) (acc := cloFrom X.env.cells scope.names []) (PySem.mem_of_lookup e)
          obtain ⟨c', e'⟩ := mem_lookup hm
          exact ⟨c', by rw [hcl]; exact e'⟩
        · obtain ⟨c, h1, _⟩ := look e
          exact ⟨c, h1⟩
      rcases hy with hy | hy
      · exact key _ hy (.inl rfl)
      · exact key _ hy (.inr rfl)
    · have z : (scope.names.lookup y == some NameKind.cell) = true := z
      have z : scope.names.lookup y = some .cell := by simpa using z
      have e : cenv.cells.lookup y = some c := e
      rw [hcl] at e
      rcases cells_mem (PySem.mem_of_lookup e) with hm | ⟨_, h2, _⟩
      · rcases cloFrom_mem hm with hm | ⟨h1, _⟩
        · cases hm
        · have q := ok.uniq _ h1
          rw [z] at q; cases q
      · rw [Heap.size_push] at h2
        exact Nat.le_of_succ_le h2
    · show b ≠ cenv.locals
      rw [hL]; exact Nat.ne_of_lt (hfp b hb).2
    · have e : cenv.cells.lookup y = some c := e
      rcases mem e with ⟨h1, _⟩ | ⟨h1, _⟩
      · exact (hfp b hb).1.2.2.2.2.1 y c h1 z
      · have h2 : s.heap.objs.size + 1 ≤ b := by rw [← z]; exact h1
        exact absurd (Nat.lt_of_lt_of_le (hfp b hb).2 (Nat.le_of_succ_le h2)) (Nat.lt_irrefl _)
    · rcases (hfp b hb).1.2.2.2.1 with z | z
      · exact I.ok.noex b o e z
      · exact absurd (Nat.lt_of_lt_of_le (Heap.lt_size e) (Nat.le_trans I.ok.bsz z)) (Nat.lt_irrefl _)
    · rcases List.mem_cons.mp (I.stkSub b z) with z | z
      · exact (hfp b hb).1.2.1 z
      · exact (hfp b hb).1.2.2.1 z
  refine ⟨okB, rfl, I.bare, Un.kept kp, ⟨fun _ => none, ?_, fun i y av e1 e2 e3 => ?_⟩, fun y c e => ?_, ?_, fun y c e => ?_, fun p hp => ?_, I.hok.kept kp, by rw [wipe_length]; exact I.len⟩
  · show Heap.Ns _ cenv.locals _
    rw [hL]
    exact Heap.Ns.keeps (Heap.Ns.new ..) fun b o e => pushCells_keeps _ _ _ _ e
  · obtain ⟨e2, hne⟩ := wipe_some e2
    have hfr : scope.names.lookup y = some .free ∧ (cenv.kindOf y = some .cell ∨ cenv.kindOf y = some .free) := by
      have key : ∀ k, cenv.scope.names.lookup y = some k → k = .local ∨ k = .cell ∨ k = .free → scope.names.lookup y = some .free ∧ (cenv.kindOf y = some .cell ∨ cenv.kindOf y = some .free) := fun k hk hk' => by
        have hk0 := hk
        rw [hsc] at hk
        obtain ⟨k', e, r⟩ := lookup_relS hk
        have no : ¬ (k' = .local ∨ k' = .cell) := fun hh => by
          rcases ok.own _ (PySem.mem_of_lookup e) hh with e' | e'
          · obtain ⟨p, hp, hpy⟩ := List.mem_map.mp e'
            have e3 := ok.ix p hp
            have : p.1 = y := hpy
            rw [this] at e3
            exact hne (List.mem_map.mpr ⟨p, hp, nodup_ix hN e3 e1⟩)
          · exact e' (List.mem_of_getElem? e1)
        rcases r with rfl | ⟨rfl, rfl⟩
        · rcases hk' with rfl | rfl | rfl
          · exact absurd (.inl rfl) no
          · exact absurd (.inr rfl) no
          · exact ⟨e, .inr hk0⟩
        · exact ⟨e, .inl hk0⟩
      have e3 : Vis cenv.scope y := e3
      rcases e3 with e3 | e3 | e3
      · exact key _ e3 (.inl rfl)
      · exact key _ e3 (.inr (.inl rfl))
      · exact key _ e3 (.inr (.inr rfl))
    obtain ⟨m, hn, hl⟩ := I.loc
    have hvis : Vis X.env.scope y := (ok.free _ (PySem.mem_of_lookup hfr.1) rfl).elim (fun k => .inr (.inl k)) (fun k => .inr (.inr k))
    obtain ⟨w, r, q⟩ := hl i y av e1 e2 hvis
    refine ⟨w, r, .inr ⟨hfr.2, ?_⟩⟩
    obtain ⟨c, h1, h2⟩ := look hfr.1
    rcases q with ⟨k, _⟩ | ⟨_, c', e', z⟩
    · have k : X.env.scope.names.lookup y = some .local := k
      rcases ok.free _ (PySem.mem_of_lookup hfr.1) rfl with k' | k' <;> rw [show X.env.scope.names.lookup y = _ from k'] at k <;> cases k
    · rw [h2] at e'; cases e'
      exact ⟨c, h1, z.keeps kp⟩
  · have e : cenv.cells.lookup y = some c := e
    rcases mem e with ⟨h1, _⟩ | ⟨_, z⟩
    · obtain ⟨w, z⟩ := I.cell y c h1
      exact ⟨w, z.keeps kp⟩
    · exact ⟨_, z⟩
  · show H cenv.locals = none
    rw [hL]; exact I.hok.fresh (Nat.le_refl _)
  · have e : cenv.cells.lookup y = some c := e
    rcases mem e with ⟨h1, _⟩ | ⟨h1, _⟩
    · exact I.freeC y c h1
    · exact I.hok.fresh (Nat.le_of_succ_le h1)
  · exact absurd (show p ∈ ([] : List (Addr × Obj)) ++ [] from hp) (by simp)
/-- an item appended to a tracked list -/
theorem app_ok {E : Value → Shared → Prop} {D : Addr} {xs : List V} {y : V} {v : Value} {Q : Value → Shared → Prop} (I : Inv X pins σ H s) (hD : H D = some (.lst xs)) (hz : xs.length < sizeLine) (r : RelV y v)
    (h : ∀ s', Inv X pins σ (upd H D (.lst (xs ++ [y]))) s' → Q .none s') : wpAny (model X.prog X.w) X.A (call (.builtin "list.append") [.ref D, v]) Q E s := by
  obtain ⟨hz', its, n, ri, e⟩ := I.hok D _ hD
  have hl := ri.length
  refine append_at (hsz := by rw [List.size_toArray]; omega) e fun h' sb ho' => ?_
  refine h { s with heap := h' } (I.write (t' := s.toks) (by rw [hD]; trivial) (.inl rfl) (fun b u hb q => (sb.2 b hb).trans q) ⟨_, ho'⟩ ⟨by rw [List.length_append]; exact hz, its ++ [v], n + 1, ri.append (.cons r .nil), ?_⟩)
  rw [ho']
  simp
/-- a clause's tests -/
def PTs (X : Cx) (ifs : List Expr) (t : TT) : Prop :=
  ∀ (pins : List (Addr × Obj)) (s : Shared) (σ : St) (H : Hp) (Q : Bool → Hp → Prop), Inv X pins σ H s → t σ H Q →
    wpAny (model X.prog X.w) X.A (forIn ifs true fun c r => if r = true then do let ok ← isTrue c X.env (eval c X.env); pure (ForInStep.yield ok) else pure (ForInStep.yield r)) (TP X pins σ Q) X.xe s
def tYes : TT := fun _ H Q => Q true H
theorem pts_nil : PTs X [] tYes := fun _ _ _ H _ I h => wpAny_tests_nil ⟨H, I, h⟩
theorem pts_one {c : Expr} {t : TT} (h : PT X c t) : PTs X [c] t := fun pins s σ H Q I hw => wpAny_tests_one (h pins s σ H Q I hw)
end
theorem thnF {α : Type} {t : Sem α} {Q Q' : α → Shared → Prop} {M : Model} {A : Around} {E : Value → Shared → Prop} {s : Shared} (h : wpAny M A t Q (fun _ _ => False) s) (hQ : ∀ a s, Q a s → Q' a s) : wpAny M A t Q' E s := wpAny_mono h hQ fun _ _ z => False.elim z
/-- the loop of a list comprehension's block, the target of any form (codeAny_compLoop_tests asks a target that no tuple goes to; statement and proof follow it, PyProof/CompMap.lean:41-61, with the step letOwnedTupleGo kept) -/
theorem compLoop_any {prog : Program} {w : World} {A : Around} {R : Result → Shared → Prop} {s : Shared} {elt target iter : Expr} {ifs : List Expr} {scope : Scope} {pos : Pos} {it acc : Value} {env : Env} (I : Nat → Shared → Prop)
    (turn : ∀ n s, I n s → wpAny (model prog w) A (pyNext it) (fun r s₁ => match r with
      | none => R (.ok .next) s₁
      | some v => wpAny (model prog w) A (letOwnedTupleGo target it v) (fun _ s₁' => wpAny (model prog w) A (assign target env v) (fun _ s₂ =>
          wpAny (model prog w) A (forIn ifs true fun c r => if r = true then do let ok ← isTrue c env (eval c env); pure (ForInStep.yield ok) else pure (ForInStep.yield r)) (fun ok s₃ =>
            if ok = true then wpAny (model prog w) A (eval elt env) (fun x s₄ =>
              wpAny (model prog w) A (call (.builtin "list.append") [acc, x]) (fun _ s₅ => ∃ m, m < n ∧ I m s₅) (notedBy (model prog w) A env fun e s' => R (.error e) s') s₄) (notedBy (model prog w) A env fun e s' => R (.error e) s') s₃
            else ∃ m, m < n ∧ I m s₃) (notedBy (model prog w) A env fun e s' => R (.error e) s') s₂) (notedBy (model prog w) A env fun e s' => R (.error e) s') s₁') (notedBy (model prog w) A env fun e s' => R (.error e) s') s₁) (notedBy (model prog w) A env fun e s' => R (.error e) s') s)
    (n : Nat) (h : I n s) :
    codeAny (model prog w) A (.compLoop (.ListComp elt [⟨target, iter, ifs, 0⟩] scope pos) 0 it acc env) R s := by
  refine codeAny_loop rfl I (fun n s hI => ?_) n h
  show wpAny _ A ((compTurn (.ListComp elt [⟨target, iter, ifs, 0⟩] scope pos) 0 it acc env).onRaise (fun x => do noteFrame x env; theTreesLotGoes x)) _ _ s
  refine wpAny_noted ?_
  rw [compTurn_list]
  refine wpAny_bind (wpAny_standAt (wpAny_bind (wpAny_mono (turn n s hI) (fun r s₁ h₁ => ?_) fun _ _ h' => h')))
  cases r with
  | none => exact wpAny_pure h₁
  | some v =>
    refine wpAny_bind (wpAny_mono h₁ (fun _ s₁' h₁' => ?_) fun _ _ h' => h')
    refine wpAny_bind (wpAny_mono h₁' (fun _ s₂ h₂ => wpAny_bind (wpAny_mono h₂ (fun ok s₃ h₃ => ?_) fun _ _ h' => h')) fun _ _ h' => h')
    cases ok with
    | false => exact wpAny_pure ⟨rfl, h₃⟩
    | true =>
      exact wpAny_bind (wpAny_bind (wpAny_mono h₃ (fun x s₄ h₄ => wpAny_bind (wpAny_mono h₄ (fun _ s₅ h₅ => wpAny_pure (wpAny_pure ⟨rfl, h₅⟩)) fun _ _ h' => h')) fun _ _ h' => h'))
section
variable {X : Cx}
/-- [elt for target in iter if ..]: D the new list; W by the turn and a measure, Nx what a turn is to reach -/
def tLc (wi : TI) (g : TG) (tt : TT) (te : TE) (vs : List Nat) : TE := fun σ H Q => wi σ H fun J H1 => ∀ D, H1 D = none → ∃ W : Nat → Nat → Hp → Prop, (∃ m, W 0 m (upd H1 D (.lst []))) ∧ ∀ i m H, W i m H →
  (J.stop i H ∧ Q (.ref D) H) ∨ (J.go i H ∧ ∃ Nx : Hp → Prop, (∀ H', Nx H' → ∃ m', m' < m ∧ W (i + 1) m' H') ∧ ∀ x H', J.yld i H x H' → g x (wipe σ vs) H' fun σ2 H2 => wipe σ2 vs = wipe σ vs ∧ tt σ2 H2 fun b H3 =>
    if b = true then te σ2 H3 fun y H4 => ∃ acc, H4 D = some (.lst acc) ∧ acc.length < sizeLine ∧ Nx (upd H4 D (.lst (acc ++ [y]))) else Nx H3)
theorem lc_core {pins : List (Addr × Obj)} {s : Shared} {σ : St} {H : Hp} {Q : VK} {elt tg iter : Expr} {ifs : List Expr} {scope : Scope} {own : List (Str × Nat)} {pos pos' : Pos} {wi : TI} {g : TG} {tt : TT} {te : TE} {use : Option (Value → Sem Unit)} {Qf : Value → Shared → Prop}
    (hc : X.calm = true) (hN : X.N.Nodup) (I : Inv X pins σ H s) (hi : PI X tg iter wi) (ok : BlkOk X.N X.env.scope scope own)
    (hg : ∀ (s : Shared) (H : Hp) (C : Addr) (cl : List (Str × Addr)) (fp : List Addr), PG (X.blk s H scope (compEnvC scope cl C X.env) fp) tg g) (ht : ∀ (s : Shared) (H : Hp) (C : Addr) (cl : List (Str × Addr)) (fp : List Addr), PTs (X.blk s H scope (compEnvC scope cl C X.env) fp) ifs tt)
    (he : ∀ (s : Shared) (H : Hp) (C : Addr) (cl : List (Str × Addr)) (fp : List Addr), PE (X.blk s H scope (compEnvC scope cl C X.env) fp) elt te) (hs : ∀ x, foldedSetIterable iter X.env x = pure x)
    (h : tLc wi g tt te (own.map (·.2)) σ H Q)
    (hRR : ∀ D C s' m H', Inv X pins σ H' s' → Q (.ref D) H' → s'.heap.Ns C m → FpOk X pins H' C → compPost (model X.prog X.w) X.A X.xe use Qf (.ref D) C (.ok .next) s') :
    wpAny (model X.prog X.w) X.A (comprehension (.ListComp elt [⟨tg, iter, ifs, 0⟩] scope pos) scope X.env pos' (newList []) false (eval iter X.env) use) Qf X.xe s := by
  have hfree : ∀ y ∈ scope.names, y.2 = .free → ∃ c, X.env.cells.lookup y.1 = some c := fun y hy e => by
    rcases ok.free y hy e with k | k
    · exact I.ok.has _ (.inl k)
    · exact I.ok.has _ (.inr k)
  refine wpAny_comprehension_free (use := use) rfl hs (closure_ok hfree) ok.kind (fun y hy e => by rw [ok.uniq y hy, e])
    (thn (hi pins s σ H _ I h) fun xv s1 hx => thn hx fun itv s2 h2 => ?_)
  obtain ⟨it, fp, tn, J, H2, e, I2, T, st2, f2, q⟩ := h2
  subst e
  refine wpAny_newObj_type (newEnv_comp ?_) (by show 0 ≤ sizeLine; decide)
  generalize hD : s2.heap.objs.size = D
  have hDn : H2 D = none := I2.hok.fresh (Nat.le_of_eq hD)
  obtain ⟨W, ⟨m0, w0⟩, turn⟩ := q D hDn
  -- the new list
  generalize hs3 : ({ s2 with heap := s2.heap.push { cls := .type "list", data := .seq ([] : List Value).toArray } } : Shared) = s3
  have I3 : Inv X pins σ (upd H2 D (.lst [])) s3 := by
    rw [← hs3]
    refine I2.laid (t' := s2.toks) (fun b o e => Heap.get?_push_of_some _ e) (Nat.le_of_eq hD) ⟨Nat.zero_le _, [], 0, .nil, ?_⟩
    rw [← hD]
    exact Heap.get?_push_size _ rfl
  have h3 : s3.heap = s2.heap.push { cls := .type "list", data := .seq ([] : List Value).toArray } := by rw [← hs3]
  have sz : ∀ b ∈ fp, b < s2.heap.objs.size := fun b hb => by
    obtain ⟨o, e, _⟩ := T.obj _ _ st2 b hb
    exact Heap.lt_size e
  have f3 : ∀ b ∈ fp, FpOk X pins (upd H2 D (.lst [])) b ∧ b < s3.heap.objs.size := fun b hb => by
    have hlt := sz b hb
    refine ⟨⟨?_, (f2 b hb).2⟩, by rw [h3, Heap.size_push]; exact Nat.lt_succ_of_lt hlt⟩
    rw [upd_ne (by rw [← hD]; exact Nat.ne_of_lt hlt)]
    exact (f2 b hb).1
  have st3 : tn 0 s3.heap := T.keep _ _ _ st2 fun b _ o e => by rw [h3]; exact Heap.get?_push_of_some _ e
  have I4 := block_start I3 ok hN f3
  have pg := hg s3 (upd H2 D (.lst [])) s3.heap.objs.size (cellsFrom (s3.heap.objs.size + 1) scope.names (cloFrom X.env.cells scope.names [])) fp
  have pt := ht s3 (upd H2 D (.lst [])) s3.heap.objs.size (cellsFrom (s3.heap.objs.size + 1) scope.names (cloFrom X.env.cells scope.names [])) fp
  have pe := he s3 (upd H2 D (.lst [])) s3.heap.objs.size (cellsFrom (s3.heap.objs.size + 1) scope.names (cloFrom X.env.cells scope.names [])) fp
  show codeAny _ _ (.compStart (.ListComp elt [⟨tg, iter, ifs, 0⟩] scope pos) 0 (.ref it) (.ref D) (compEnvC scope (cellsFrom (s3.heap.objs.size + 1) scope.names (cloFrom X.env.cells scope.names [])) s3.heap.objs.size X.env)) (compPost (model X.prog X.w) X.A X.xe use Qf (.ref D) s3.heap.objs.size) { s3 with heap := pushCells (s3.heap.push { cls := .type "dict", data := .dict #[] }) scope.names }
  have nfp : ∀ b ∈ fp, (upd H2 D (.lst [])) b = none := fun b hb => (f3 b hb).1.1
  generalize hce : compEnvC scope (cellsFrom (s3.heap.objs.size + 1) scope.names (cloFrom X.env.cells scope.names [])) s3.heap.objs.size X.env = ce at I4 pg pt pe ⊢
  have cL : ce.locals = s3.heap.objs.size := by subst hce; rfl
  generalize hH3 : upd H2 D (.lst []) = H3 at I3 I4 pg pt pe w0 nfp f3
  generalize hs4 : ({ s3 with heap := pushCells (s3.heap.push { cls := .type "dict", data := .dict #[] }) scope.names } : Shared) = s4 at I4 ⊢
  have st4 : tn 0 s4.heap := T.keep _ _ _ st3 fun b _ o e => by rw [← hs4]; exact pushCells_keeps _ _ _ _ (Heap.get?_push_of_some _ e)
  have stat : ∀ {σ' : St} {H' : Hp} {s' : Shared}, Inv (X.blk s3 H3 scope ce fp) [] σ' H' s' → (∀ b ∈ fp, H' b = none) → ∀ b ∈ fp, FpOk (X.blk s3 H3 scope ce fp) [] H' b := fun {σ' H' s'} I' hn b hb =>
    ⟨hn b hb, (I'.ok.exf b hb).1, I'.ok.exfs b hb, .inl hb, fun x c e => (I'.ok.exf b hb).2 x c e, fun p hp => absurd (show p ∈ ([] : List (Addr × Obj)) ++ [] from hp) (by simp)⟩
  have loop : codeAny (model X.prog X.w) X.A (.compLoop (.ListComp elt [⟨tg, iter, ifs, 0⟩] scope pos) 0 (.ref it) (.ref D) ce) (compPost (model X.prog X.w) X.A X.xe use Qf (.ref D) s3.heap.objs.size) s4 := by
    refine compLoop_any (fun n s' => ∃ i H', Inv (X.blk s3 H3 scope ce fp) [] (wipe σ (own.map (·.2))) H' s' ∧ tn i s'.heap ∧ (∀ b ∈ fp, H' b = none) ∧ W i n H') ?_ m0 ⟨0, H3, I4, st4, nfp, w0⟩
    rintro n s5 ⟨i, H5, I5, st5, n5, w5⟩
    rcases turn i n H5 w5 with ⟨stop, qq⟩ | ⟨go, Nx, hNx, step⟩
    · have td := T.done (X.blk s3 H3 scope ce fp) rfl rfl rfl hc i [] s5 _ H5 (fun _ _ => False) I5 (stat I5 n5) st5 stop
      refine thnF td fun r s6 ⟨hr, I6⟩ => ?_
      subst hr
      -- back in the def's context
      have I7 : Inv X pins σ H5 s6 := I3.call' (ch := fp) I6.os I6.base I6.hok I6.bare fun b hb => ⟨(f3 b hb).1.2.2.2.1, (f3 b hb).1.2.1, (f3 b hb).1.2.2.2.2.1, (f3 b hb).1.2.2.2.2.2⟩
      have nC : H5 s3.heap.objs.size = none := by
        have z : H5 ce.locals = none := I6.free
        rw [cL] at z
        exact z
      obtain ⟨m, hn, _⟩ := I6.loc
      have hn : s6.heap.Ns ce.locals m := hn
      rw [cL] at hn
      exact hRR D s3.heap.objs.size s6 m H5 I7 qq hn (I3.fpOk (Nat.le_refl _) nC)
    · have ti := T.item (X.blk s3 H3 scope ce fp) rfl rfl rfl hc i [] s5 _ H5 (fun _ _ => False) I5 (stat I5 n5) st5 go
      refine thnF ti fun r s6 ⟨u, hr, h6⟩ => ?_
      subst hr
      refine thnF h6 fun _ s7 ⟨x, H7, I7, r7, y7, st7, n7⟩ => ?_
      have I7' := I7.pinned (stat I7 n7) (T.obj _ _ st7)
      refine thnF (pg _ s7 _ H7 x u _ I7' r7 (step x H7 y7)) fun _ s8 ⟨σ8, H8, I8, hw8, q8⟩ => ?_
      refine thnF (pt _ s8 σ8 H8 _ I8 q8) fun b s9 ⟨H9, I9, q9⟩ => ?_
      -- the turn's end
      have fin : ∀ {s' : Shared} {H' : Hp}, Inv (X.blk s3 H3 scope ce fp) ([] ++ pinsAt fp s7.heap) σ8 H' s' → Nx H' → ∃ m, m < n ∧ ∃ i H', Inv (X.blk s3 H3 scope ce fp) [] (wipe σ (own.map (·.2))) H' s' ∧ tn i s'.heap ∧ (∀ b ∈ fp, H' b = none) ∧ W i m H' := fun {s' H'} I' nx => by
        obtain ⟨m', hm, w'⟩ := hNx H' nx
        have pin' : ∀ b ∈ fp, ∀ o, s7.heap.get? b = some o → s'.heap.get? b = some o ∧ H' b = none := fun b hb o e =>
          let z := I'.pin (b, o) (List.mem_append_right _ (List.mem_append_right _ (mem_pinsAt hb e)))
          ⟨z.1, z.2.1⟩
        have hl : (wipe σ (own.map (·.2))).length = σ8.length := by rw [← hw8, wipe_length]
        refine ⟨m', hm, i + 1, H', (I'.unpinned (pins := [])).weak hl (fun j v e => ?_), T.keep _ _ _ st7 fun b hb o e => (pin' b hb o e).1, fun b hb => ?_, w'⟩
        · rw [← hw8] at e
          exact (wipe_some e).1
        · obtain ⟨o, e, _⟩ := T.obj _ _ st7 b hb
          exact (pin' b hb o e).2
      cases b with
      | false =>
        simp only [Bool.false_eq_true, if_false] at q9 ⊢
        exact fin I9 q9
      | true =>
        simp only [if_true] at q9 ⊢
        refine thnF (pe _ s9 σ8 H9 _ I9 q9) fun z s10 ⟨yv, H10, I10, r10, acc, hD10, hz10, nx⟩ => ?_
        exact app_ok (X := X.blk s3 H3 scope ce fp) I10 hD10 hz10 r10 fun s11 I11 => fin I11 nx
  exact codeAny_compStart_list loop (T.self X.A 0 _ _ _ st4 loop)
/-- as a value -/
theorem pe_lc {elt tg iter : Expr} {ifs : List Expr} {scope : Scope} {own : List (Str × Nat)} {pos : Pos} {wi : TI} {g : TG} {tt : TT} {te : TE} (hc : X.calm = true) (hN : X.N.Nodup) (hi : PI X tg iter wi) (ok : BlkOk X.N X.env.scope scope own)
    (hg : ∀ (s : Shared) (H : Hp) (C : Addr) (cl : List (Str × Addr)) (fp : List Addr), PG (X.blk s H scope (compEnvC scope cl C X.env) fp) tg g) (ht : ∀ (s : Shared) (H : Hp) (C : Addr) (cl : List (Str × Addr)) (fp : List Addr), PTs (X.blk s H scope (compEnvC scope cl C X.env) fp) ifs tt)
    (he : ∀ (s : Shared) (H : Hp) (C : Addr) (cl : List (Str × Addr)) (fp : List Addr), PE (X.blk s H scope (compEnvC scope cl C X.env) fp) elt te) (hs : ∀ x, foldedSetIterable iter X.env x = pure x := by intro _; rfl) :
    PE X (.ListComp elt [⟨tg, iter, ifs, 0⟩] scope pos) (tLc wi g tt te (own.map (·.2))) := by
  intro pins s σ H Q I h
  rw [eval_ListComp]
  refine lc_core hc hN I hi ok hg ht he hs h fun D C s' m H' I' q hn f => ⟨m, hn, fun h'' sb => ?_⟩
  obtain ⟨f0, f1, f2, f3, f4, f5⟩ := f
  exact ⟨.ref D, H', I'.turned (t' := s'.toks) (fun b o hb e => (sb.2 b hb).trans e) f0 f1 f3 f4 f5, rfl, q⟩
/-- name = [..] on one line, the name a local -/
theorem ps_setLc {i : Nat} {y : Str} {py : Pos} {elt tg iter : Expr} {ifs : List Expr} {scope : Scope} {own : List (Str × Nat)} {pos spos : Pos} {wi : TI} {g : TG} {tt : TT} {te : TE} (hc : X.calm = true) (hN : X.N.Nodup) (hy : X.N[i]? = some y) (hyl : X.env.scope.names.lookup y = some .local)
    (hsw : swapsWith (.ListComp elt [⟨tg, iter, ifs, 0⟩] scope pos) (some (.Name y py)) spos.line X.env = pure true) (hi : PI X tg iter wi) (ok : BlkOk X.N X.env.scope scope own)
    (hg : ∀ (s : Shared) (H : Hp) (C : Addr) (cl : List (Str × Addr)) (fp : List Addr), PG (X.blk s H scope (compEnvC scope cl C X.env) fp) tg g) (ht : ∀ (s : Shared) (H : Hp) (C : Addr) (cl : List (Str × Addr)) (fp : List Addr), PTs (X.blk s H scope (compEnvC scope cl C X.env) fp) ifs tt)
    (he : ∀ (s : Shared) (H : Hp) (C : Addr) (cl : List (Str × Addr)) (fp : List Addr), PE (X.blk s H scope (compEnvC scope cl C X.env) fp) elt te) (hs : ∀ x, foldedSetIterable iter X.env x = pure x := by intro _; rfl) :
    PS X (.Assign [.Name y py] (.ListComp elt [⟨tg, iter, ifs, 0⟩] scope pos) spos) (tAsg (tLc wi g tt te (own.map (·.2))) (gName i)) := by
  intro pins s σ H D I h
  rw [exec_Assign_Name_used _ _ _ _ hsw]
  refine wpAny_bind (wpAny_standAt (wpAny_bind ?_))
  show wpAny _ X.A (do let _ ← comprehension (.ListComp elt [⟨tg, iter, ifs, 0⟩] scope pos) scope X.env (firstIterPos [⟨tg, iter, ifs, 0⟩] pos) (newList []) false (eval iter X.env) (some (assign (.Name y py) X.env))) _ _ s
  have h : tLc wi g tt te (own.map (·.2)) σ H (fun x H1 => gName i x σ H1 D.nx) := h
  refine wpAny_bind (thn (lc_core (Qf := fun _ s' => SP X pins D .next s') hc hN I hi ok hg ht he hs h fun L C s' m H' I' q hn f => ?_) fun _ s' hq => wpAny_pure (wpAny_pure hq))
  show wpAny _ _ (assign (.Name y py) X.env (.ref L)) _ _ _
  refine wpAny_assign_Name (store_ok2 (v := V.ref L) I' hN hy (.inl hyl) rfl (fun s2 I2 ⟨a, sb, ha⟩ => ?_) (.inr hyl))
  obtain ⟨f0, f1, f2, f3, f4, f5⟩ := f
  have haC : C ≠ a := by
    rcases ha with z | z
    · rw [z]; exact f1
    · exact fun e => f4 y a z e.symm
  refine ⟨m, hn.sameBut sb haC, fun h3 sb3 => ?_⟩
  exact ⟨_, H', I2.turned (t' := s2.toks) (fun b o hb e => (sb3.2 b hb).trans e) f0 f1 f3 f4 f5, q⟩
theorem sw_true {elt : Expr} {gs : List Comprehension} {scope : Scope} {pos py : Pos} {y : Str} {l : Nat} {env : Env} (hk : env.scope.kind = .function) (hy : env.scope.names.lookup y = some .local) (hl : (py.line == pos.line) = true)
    (ha : (scope.names.any fun (n, k) => n == y && (k == .local || k == .cell)) = false) : swapsWith (.ListComp elt gs scope pos) (some (.Name y py)) l env = pure true := by
  have ky : env.kindOf y = some .local := hy
  have hb : env.blockKind = .function := by unfold Env.blockKind; rw [hk]; rfl
  unfold swapsWith
  simp only [hb, ky, ha, Expr.pos, hl]
  rfl
end
/-! ### the forms one uses -/
/-- over a range: Pv by the turn and the heap (the new list at D within) -/
theorem lc_range {lo : Int} {n : Nat} {g : TG} {tt : TT} {te : TE} {vs : List Nat} {σ : St} {H1 : Hp} {D : Addr} {Qd : Hp → Prop} (Pv : Nat → Hp → Prop) (h0 : Pv 0 (upd H1 D (.lst [])))
    (hs : ∀ i H, i < n → Pv i H → g (.int (lo + i)) (wipe σ vs) H fun σ2 H2 => wipe σ2 vs = wipe σ vs ∧ tt σ2 H2 fun b H3 =>
      if b = true then te σ2 H3 fun y H4 => ∃ acc, H4 D = some (.lst acc) ∧ acc.length < sizeLine ∧ Pv (i + 1) (upd H4 D (.lst (acc ++ [y]))) else Pv (i + 1) H3) (hd : ∀ H, Pv n H → Qd H) :
    ∃ W : Nat → Nat → Hp → Prop, (∃ m, W 0 m (upd H1 D (.lst []))) ∧ ∀ i m H, W i m H →
      ((Itr lo n).stop i H ∧ Qd H) ∨ ((Itr lo n).go i H ∧ ∃ Nx : Hp → Prop, (∀ H', Nx H' → ∃ m', m' < m ∧ W (i + 1) m' H') ∧ ∀ x H', (Itr lo n).yld i H x H' → g x (wipe σ vs) H' fun σ2 H2 => wipe σ2 vs = wipe σ vs ∧ tt σ2 H2 fun b H3 =>
        if b = true then te σ2 H3 fun y H4 => ∃ acc, H4 D = some (.lst acc) ∧ acc.length < sizeLine ∧ Nx (upd H4 D (.lst (acc ++ [y]))) else Nx H3) := by
  refine ⟨fun i m H => m = n - i ∧ i ≤ n ∧ Pv i H, ⟨n, by simp, Nat.zero_le _, h0⟩, ?_⟩
  rintro i m H ⟨rfl, hi, p⟩
  by_cases hlt : i < n
  · refine .inr ⟨hlt, Pv (i + 1), fun H' p' => ⟨n - (i + 1), by omega, rfl, hlt, p'⟩, fun x H' y => ?_⟩
    obtain ⟨e, y⟩ := y
    subst e y
    exact hs i _ hlt p
  · have e : i = n := by omega
    subst e
    exact .inl ⟨Nat.le_refl _, hd H p⟩
/-- over a list that the block leaves as it is -/
theorem lc_list {K : PySem.W.Frag} {a : Addr} {xs : List V} {g : TG} {tt : TT} {te : TE} {vs : List Nat} {σ : St} {H1 : Hp} {D : Addr} {Qd : Hp → Prop} (Pv : Nat → Hp → Prop) (h0 : Pv 0 (upd H1 D (.lst []))) (hl : ∀ i H, i ≤ xs.length → Pv i H → SqL K H a xs)
    (hs : ∀ i x H, xs[i]? = some x → Pv i H → g x (wipe σ vs) H fun σ2 H2 => wipe σ2 vs = wipe σ vs ∧ tt σ2 H2 fun b H3 =>
      if b = true then te σ2 H3 fun y H4 => ∃ acc, H4 D = some (.lst acc) ∧ acc.length < sizeLine ∧ Pv (i + 1) (upd H4 D (.lst (acc ++ [y]))) else Pv (i + 1) H3) (hd : ∀ H, Pv xs.length H → Qd H) :
    ∃ W : Nat → Nat → Hp → Prop, (∃ m, W 0 m (upd H1 D (.lst []))) ∧ ∀ i m H, W i m H →
      ((Itl K a).stop i H ∧ Qd H) ∨ ((Itl K a).go i H ∧ ∃ Nx : Hp → Prop, (∀ H', Nx H' → ∃ m', m' < m ∧ W (i + 1) m' H') ∧ ∀ x H', (Itl K a).yld i H x H' → g x (wipe σ vs) H' fun σ2 H2 => wipe σ2 vs = wipe σ vs ∧ tt σ2 H2 fun b H3 =>
        if b = true then te σ2 H3 fun y H4 => ∃ acc, H4 D = some (.lst acc) ∧ acc.length < sizeLine ∧ Nx (upd H4 D (.lst (acc ++ [y]))) else Nx H3) := by
  refine ⟨fun i m H => m = xs.length - i ∧ i ≤ xs.length ∧ Pv i H, ⟨xs.length, by simp, Nat.zero_le _, h0⟩, ?_⟩
  rintro i m H ⟨rfl, hi, p⟩
  have q := hl i H hi p
  by_cases hlt : i < xs.length
  · refine .inr ⟨⟨xs, xs[i], q, by simp [hlt]⟩, Pv (i + 1), fun H' p' => ⟨xs.length - (i + 1), by omega, rfl, hlt, p'⟩, fun x H' y => ?_⟩
    obtain ⟨e, y⟩ := y
    subst e
    exact hs i x _ (y xs q) p
  · have e : i = xs.length := by omega
    subst e
    exact .inl ⟨⟨xs, q, Nat.le_refl _⟩, hd H p⟩
def blkC (N : List Str) (sc scope : Scope) (own : List (Str × Nat)) : Bool :=
  (match scope.kind with | .function => true | _ => false) && (scope.names.all fun y => decide (scope.names.lookup y.1 = some y.2)) && (own.all fun p => decide (N[p.2]? = some p.1)) &&
    (scope.names.all fun y => match y.2 with
      | .free => (match sc.names.lookup y.1 with | some .cell => true | some .free => true | _ => false)
      | .local => decide (y.1 ∈ own.map (·.1)) || decide (y.1 ∉ N)
      | .cell => decide (y.1 ∈ own.map (·.1)) || decide (y.1 ∉ N)
      | _ => true)
theorem blkOk_by {N : List Str} {sc scope : Scope} {own : List (Str × Nat)} (h : blkC N sc scope own = true) : BlkOk N sc scope own := by
  unfold blkC at h
  simp only [Bool.and_eq_true, List.all_eq_true, decide_eq_true_eq] at h
  obtain ⟨⟨⟨h1, h2⟩, h3⟩, h4⟩ := h
  refine ⟨?_, h2, h3, fun y hy e => ?_, fun y hy e => ?_⟩
  · split at h1
    · assumption
    · cases h1
  · have q := h4 y hy
    simp only [e] at q
    split at q <;> first | exact .inl (by assumption) | exact .inr (by assumption) | cases q
  · have q := h4 y hy
    rcases e with e | e <;> (simp only [e, Bool.or_eq_true, decide_eq_true_eq] at q; exact q)
end L2
namespace L2
open PySem PySem.Spec PyProof.Rows
section
variable {prog : Program} {w : World} {A : Around} {R : Result → Shared → Prop} {s : Shared} {elt t0 i0 t1 i1 : Expr} {ifs0 ifs1 : List Expr} {scope : Scope} {pos : Pos} {it acc : Value} {env : Env}
end
section
variable {X : Cx}
end
end L2
namespace L2
open PySem PySem.Spec PyProof.Rows
/-! ### lists of pairs as tables -/
section
variable {κ : Type} [DecidableEq κ]
end
/-! ### a tracked dict, its keys ints and texts or tuples of these -/
section
variable {P : Program} {w : World} {H : Hp} {h : Heap} {a : Addr}
end
section
variable {X : Cx} {pins : List (Addr × Obj)} {σ : St} {H : Hp} {s : Shared} {a : Addr} {y v : V} {u r : Value} {o : Option V} {A : Around} {E : Value → Shared → Prop}
end
section
variable {X : Cx} {pins : List (Addr × Obj)} {σ : St} {H : Hp} {s : Shared} {a : Addr} {kvs : List (Key × V)} {k : Key} {u : Value} {A : Around} {E : Value → Shared → Prop}
end
/-! ### readings and rules -/
section
variable {X : Cx} {o i e value : Expr} {pos pos' tpos : Pos} {td ty tv : TE}
end
/-! ### displays -/
section
variable {X : Cx} {pos : Pos}
end
/-! ### methods -/
section
variable {X : Cx} {pins : List (Addr × Obj)} {σ : St} {H : Hp} {s : Shared} {a : Addr} {y d : V} {u r : Value} {o : Option V} {A : Around} {E : Value → Shared → Prop}
end
section
variable {X : Cx} {o e f : Expr} {apos cpos : Pos} {td ty tx : TE}
end
/-! ### dict(d): a copy -/
section
variable {X : Cx} {pins : List (Addr × Obj)} {σ : St} {H : Hp} {s : Shared} {a : Addr} {kvs : List (Key × V)} {A : Around} {E : Value → Shared → Prop}
end
section
variable {X : Cx} {pins : List (Addr × Obj)} {σ : St} {H : Hp} {s : Shared} {a : Addr} {y : V} {u : Value} {A : Around} {E : Value → Shared → Prop}
end
end L2
namespace L2
open PySem PySem.Spec PyProof.Rows
section
variable {prog : Program} {w : World} {A : Around} {E : Value → Shared → Prop}
end
section
variable {X : Cx}
end
end L2
namespace L2
open PySem PySem.Spec PyProof.Rows
section
variable {X : Cx} {pins : List (Addr × Obj)} {σ : St} {H : Hp} {s : Shared} {h' : Heap}
/-- .. and one new object is laid -/
theorem Inv.turnedNew {t' : Nat} {ch : List Addr} {T : Addr} {ob : HO} (I : Inv X pins σ H s) (k : ∀ b o, b ∉ ch → s.heap.get? b = some o → h'.get? b = some o) (hf : ∀ b ∈ ch, FpOk X pins H b) (hT : s.heap.objs.size ≤ T)
    (new : ObjOk X.prog X.w (upd H T ob) h' T ob) : Inv X pins σ (upd H T ob) { s with heap := h', toks := t' } := by
  have hn : H T = none := I.hok.fresh hT
  have nit : ∀ b u, H b = some u → b ∉ ch := fun b u e z => by
    have q := (hf b z).1
    rw [q] at e; cases e
  refine I.step (g' := s.gens) (d' := s.drawn) (ch := ch) (fun b hb => ⟨(hf b hb).2.2.2.1, (hf b hb).2.1, (hf b hb).2.2.2.2.1, (hf b hb).2.2.2.2.2⟩) (fun b o _ _ hc e _ => k b o hc e) (fun b o _ _ hc e _ => ⟨o.slots, k b o hc e⟩)
    (fun b o _ e n => ?_) (fun b o hc e => ⟨o, k b o hc e⟩) (fun b xs e => ?_) (fun b o u e => ?_) (fun b ps e => ⟨#[], ?_⟩) (fun m hm => ?_) (fun b u e => ?_) I.bare
  · rw [upd_ne (Nat.ne_of_lt (Nat.lt_of_lt_of_le (Heap.lt_size e) hT))]; exact n
  · rw [upd_ne (ne_of_none e hn)]; exact e
  · rw [upd_ne (ne_of_none e hn)]; exact e
  · rw [upd_ne (ne_of_none e hn), e]; simp
  · obtain ⟨o, es, ep, ho, r⟩ := hm
    exact ⟨o, es, ep, k _ o (fun z => (hf _ z).2.1 rfl) ho, r⟩
  · by_cases hb : b = T
    · subst hb
      rw [upd_same] at e
      cases e
      exact new
    · rw [upd_ne hb] at e
      refine (I.hok b u e).stay (fun c v hc q => k c v ?_ q) (fun c q => by rw [upd_ne (ne_of_none q hn)]; exact q) fun c xs q => by rw [upd_ne (ne_of_none q hn)]; exact q
      rcases hc with z | z
      · rw [z]; exact nit b u e
      · exact nit c _ z
/-! ### locking a thing while a statement runs -/
end
section
variable {X : Cx}
/-! ### one iterator just laid -/
end
/-! ### range with a step -/
section
variable {X : Cx} {tg : Expr}
end
/-! ### reversed(list) -/
section
variable {X : Cx} {tg : Expr}
end
/-! ### a str -/
/-! ### a dict's keys: any dict's entries -/
section
variable {prog : Program} {w : World} {A : Around} {E : Value → Shared → Prop} {s : Shared}
end
/-! ### a locked dict -/
section
variable {X : Cx} {pins : List (Addr × Obj)} {σ : St} {H : Hp} {s : Shared} {d : Addr} {o : Obj}
end
section
variable {P : Program} {w : World} {K : PySem.W.Frag} {tg : Expr} {d : Addr} {o : Obj} {es : Array DictEntry} {ep : Nat}
end
/-! ### for k in d, d.keys(), d.values(), d.items() -/
section
variable {X : Cx} {tg e : Expr} {td : TE} {apos cpos : Pos}
end
/-! ### enumerate(list) -/
/-! ### zip(list, list) -/
end L2
section 
namespace Bits
open PySem PyProof.Rows
end Bits
end 
section 
namespace TL
open PySem PySem.Builtin PySem.Builtin.Str PySem.StrLaws
/-! ### the list functions -/
/-! ### the model's split and partition are these -/
/-! ### computing spl and par -/
/-! ### digits -/
/-! ### words: x.split() -/
end TL
end 
namespace L2
open PySem PySem.Spec PyProof.Rows
section
variable {X : Cx} {pins : List (Addr × Obj)} {σ : St} {H : Hp} {s : Shared} {Q : VK}
end
section
variable {X : Cx}
/-! ### of a text alone -/
/-! ### of a text and a text -/
end
section
variable {X : Cx} {o e : Expr} {to te : TE}
end
end L2
namespace L2
open PySem PySem.Spec PyProof.Rows
section
variable {X : Cx}
end
/-! ### slices of a text -/
end L2
namespace Att
open PySem PySem.W PySem.Calls PyProof.Rows
/-! ### the script -/
/-! ### the attachment: holds_open's last premise (the goal 'hc' behind k_head) from a wpAny of the law's body -/
/-! ### rules over ANY heap (no ledger) from facts about the written part K: the library's own take a ledger (News) for what they write -/
section
variable {prog : Program} {w : World} {A : Around} {E : Value → Shared → Prop} {s : Shared} {K : Frag}
/-! the whole heap as the ledger: makes every rule that writes through a ledger a rule over any heap -/
end
end Att
namespace L2
open PySem PySem.Spec PyProof.Rows
end L2
namespace L2
open PySem PySem.Spec PyProof.Rows
abbrev KOf {K : PySem.W.Frag} {h : Heap} (_ : K.In h) : PySem.W.Frag := K
end L2
/- THE LAST THEOREM (shape; LID, My.* are yours):
   My.Adr: a structure of the addresses that your layer names (classes, functions); My.Txt K t: a structure (Prop) of the equations over K;
   My.txt_mk : {K} {implicit addresses ..} (e1 : nsIn K mainGlobals "law" = some (some (.ref f))) (e2 : K.lookup f = some ⟨oc, od, .func (fnOf "law" "law" params body scope dV kV doc pm an cdv ct), sl⟩) (e3 : codeIn K cdv "law" = true) .. : ∃ t, My.Txt K t
set_option maxRecDepth 100000 in
set_option maxHeartbeats 0 in
theorem PySem.Challenge.cw_LID_holds : PySem.Challenge.rw_LID.Holds := by
  w_on; o_law; k_head; (case hw => w_witness2)
  k_fill
  refine L2.walk_of (l := PySem.Challenge.rw_LID) (n := 63) (k := 40) (x := "script") (CX := fun w => ..) (sp := fun _ => My.sp_law) rfl (by decide) rfl ⟨rfl, by decide, by decide⟩ (fun w h Y => PySem.W.kIn_of Y) ?F ?S ?C
  case F =>
    intro w mg fa h KX G hmg
    have T : ∃ t, My.Txt (L2.KOf KX) t := by
      dsimp only [L2.KOf]                          -- K must stand as «<heap const> w.params» for k_is
      refine' My.txt_mk ?e1 ?e2 ?e3 ..
      (case e1 => PySem.W.k_is)                    -- in the order: a name -> its address -> its object -> its parts
      (case e2 => PySem.W.k_is)
      ..
    obtain ⟨t, T⟩ := T
    have e0 := hmg.symm.trans (PySem.W.mg_of KX G T.law)
    cases e0                                       -- fa is the law's own address
    exact ⟨_, fun s u => .of_eq rfl, fun base kb nb => My.law_fn T kb nb⟩     -- if «.of_eq rfl» comes too early: refine' ⟨_, ?b, fun base kb nb => My.law_fn T kb nb⟩; exact fun s u => .of_eq rfl
  case S => exact fun w H a ns hl hO hS => ..
  case C => exact ..
(the tactic k_is has no namespace: write k_is) -/
/-! SHORT WORDS over the layer: a def of the text, its body, what a loop and a test want. -/
namespace L2
open PySem PySem.Spec PyProof.Rows
/-! ### the text by places -/
def defArgs (s : Stmt) : Arguments := match s with
  | .FunctionDef _ a _ _ _ _ _ _ _ _ => a
  | _ => { posonlyargs := [], args := [], vararg := none, kwonlyargs := [], kw_defaults := [], kwarg := none, defaults := [] }
def defBody (s : Stmt) : List Stmt := match s with
  | .FunctionDef _ _ b _ _ _ _ _ _ _ => b
  | _ => []
def defScope (s : Stmt) : Scope := match s with
  | .FunctionDef _ _ _ _ _ _ sc _ _ _ => sc
  | _ => { kind := .function, names := [], isGenerator := false, isCoroutine := false }
/-! ### no exception leaves a def -/
abbrev CX0 : CXT := fun _ _ _ _ _ _ => False
abbrev E0 : XK := fun _ _ _ => False
theorem pass0 {X : Cx} : Passes CX0 X E0 := fun _ _ _ _ _ _ _ h => h.elim
/-! ### a def (or method) of the text as it stands behind the top -/
structure Fun (K : PySem.W.Frag) (x qual : Str) (st : Stmt) (f : Addr) (fd : FuncData) : Prop where
  ex : ∃ (oc : Value) (od : Option Addr) (kV doc pm : Value) (an : Option Addr) (cdv ct : Value) (osl : Array (Option Value)),
    fd = PySem.W.fnOf x qual (defArgs st) (defBody st) (defScope st) .none kV doc pm an cdv ct ∧ K.lookup f = some ⟨oc, od, .func fd, osl⟩ ∧ PySem.W.codeIn K cdv qual = true
  kp : PySem.W.keepIn K (.ref f) = true
section
variable {P : Program} {w : World} {K : PySem.W.Frag} {mg : Str → Option Value} {base : Heap}
/-- THE RULE for a def: its body as a term of rules, and the reading of that term -/
theorem Fun.ok {x qual : Str} {st : Stmt} {f : Addr} {fd : FuncData} {N ps : List Str} {k : Nat} {sp : Sp} (F : Fun K x qual st f fd) (S : FnScope N ps (defScope st)) (len : ∀ vs H Q E, sp vs H Q E → vs.length = ps.length)
    (hbody : ∀ (cdv : Value) (A : Around) (outer : List Env) (s : Shared) (H : Hp) (vs : List V) (Q : VK) (E : XK), Room k (A.deeper (envOfC qual (defScope st) s.heap.objs.size f cdv)) → sp vs H Q E →
      ∃ t, PSs (cxOf CX0 P w K mg base N qual (defScope st) f cdv A outer s H E).nox (defBody st) t ∧ t { nx := fun _ H' => Q .non H', rt := Q } (start N vs) H) : FnOk P w K mg base CX0 (k + 1) f fd ps sp := by
  obtain ⟨oc, od, kV, doc, pm, an, cdv, ct, osl, rfl, lk, hcd⟩ := F.ex
  refine fn_of lk hcd S len fun A outer s H vs Q E hr hsp => ?_
  obtain ⟨t, h, q⟩ := hbody cdv A outer s H vs Q E hr hsp
  exact ⟨t, h.nox, q⟩
/-- how its arguments bind (no defaults): h is «fun _ _ _ _ _ _ us hl => match us, hl with | [_, _], _ => rfl», one _ a parameter -/
theorem Fun.binds {x qual : Str} {st : Stmt} {f : Addr} {fd : FuncData} {ps : List Str} (F : Fun K x qual st f fd)
    (h : ∀ (kV doc pm : Value) (an : Option Addr) (cdv ct : Value) (us : List Value), us.length = ps.length → bindArgs (PySem.W.fnOf x qual (defArgs st) (defBody st) (defScope st) .none kV doc pm an cdv ct) ⟨us, []⟩ = pure (ps.zip us)) : Binds K fd ps [] := by
  obtain ⟨oc, od, kV, doc, pm, an, cdv, ct, osl, rfl, lk, hcd⟩ := F.ex
  exact .all (h kV doc pm an cdv ct)
theorem fun_mk {x qual : Str} {st : Stmt} {f : Addr} {oc : Value} {od an : Option Addr} {osl : Array (Option Value)} {kV doc pm cdv ct : Value} (l : K.lookup f = some ⟨oc, od, .func (PySem.W.fnOf x qual (defArgs st) (defBody st) (defScope st) .none kV doc pm an cdv ct), osl⟩)
    (c : PySem.W.codeIn K cdv qual = true) (k : PySem.W.keepIn K (.ref f) = true) : Fun K x qual st f (PySem.W.fnOf x qual (defArgs st) (defBody st) (defScope st) .none kV doc pm an cdv ct) := ⟨⟨oc, od, kV, doc, pm, an, cdv, ct, osl, rfl, l, c⟩, k⟩
end
theorem small1000 {n : Nat} (h : n ≤ 1000) : n < sizeLine := Nat.lt_of_le_of_lt h (by decide)
/-! ### expressions in short: the name that stands in the i-th slot -/
section
variable {X : Cx}
theorem pv (i : Nat) {x : Str} {pos : Pos} (hN : X.N[i]? = some x := by rfl) (hv : Vis X.env.scope x := by first | exact Or.inl rfl | exact Or.inr (Or.inl rfl) | exact Or.inr (Or.inr rfl)) (hd : (x == ("__debug__" : Str)) = false := by decide)
    (hcd : (x == ("__classdict__" : Str)) = false := by decide) : PE X (.Name x pos) (tVar i) := pe_var hN hv hd hcd
end
/-! ### tests -/
theorem iteF {A B : Prop} (h : B) : if false = true then A else B := by
  rw [if_neg Bool.false_ne_true]
  exact h
theorem ite2 {c A B : Prop} [Decidable c] (h1 : c → A) (h2 : ¬ c → B) : if c then A else B := by
  by_cases h : c
  · rw [if_pos h]
    exact h1 h
  · rw [if_neg h]
    exact h2 h
/-! ### heaps -/
/-- all that was tracked is as it was -/
def Same (H H' : Hp) : Prop := ∀ b o, H b = some o → H' b = some o
theorem Same.refl (H : Hp) : Same H H := fun _ _ h => h
theorem Same.trans {H H1 H2 : Hp} (a : Same H H1) (b : Same H1 H2) : Same H H2 := fun c o h => b c o (a c o h)
theorem Same.free {H H' : Hp} (e : Same H H') {l : Addr} (h : H' l = Option.none) : H l = Option.none := by
  cases q : H l with
  | none => rfl
  | some o =>
    rw [e l o q] at h
    cases h
theorem Same.seq {K : PySem.W.Frag} {H H' : Hp} {a : Addr} {xs : List V} (e : Same H H') (h : SqL K H a xs) : SqL K H' a xs := by
  rcases h with (h | ⟨o, h⟩) | h
  · exact .inl (.inl (e _ _ h))
  · exact .inl (.inr ⟨o, e _ _ h⟩)
  · exact .inr h
/-! ### a dict's pairs: keys that differ -/
section
variable {κ : Type} [DecidableEq κ]
end
/-! ### lists -/
end L2
end
section
section
set_option Elab.async false
set_option linter.all false
set_option maxRecDepth 100000
set_option maxHeartbeats 2000000
namespace L2
open PySem PySem.Spec PyProof.Rows
open PySem.W (WData Codec OpenSpec Well WellAll ReadsW ReadsAllW)
/-! ### an answer as data -/
mutual
/-- x stands for the datum d, lists and tuples all the way -/
inductive Dw (K : PySem.W.Frag) (H : Hp) : V → WData → Prop
  | non : Dw K H .non .none
  | bl (b : Bool) : Dw K H (.bl b) (.bool b)
  | int (i : Int) : Dw K H (.int i) (.int i)
  | str (x : Str) : Dw K H (.str x) (.str x)
  | byt (b : Array UInt8) : Dw K H (.byt b) (.bytes b.toList)
  | lst {a : Addr} {xs : List V} {ds : List WData} : SqL K H a xs → DwAll K H xs ds → Dw K H (.ref a) (.list ds)
  | tup {a : Addr} {xs : List V} {ds : List WData} : SqT K H a xs → DwAll K H xs ds → Dw K H (.ref a) (.tuple ds)
inductive DwAll (K : PySem.W.Frag) (H : Hp) : List V → List WData → Prop
  | nil : DwAll K H [] []
  | cons {v : V} {vs : List V} {d : WData} {ds : List WData} : Dw K H v d → DwAll K H vs ds → DwAll K H (v :: vs) (d :: ds)
end
theorem dw_ints {K : PySem.W.Frag} {H : Hp} : ∀ ns : List Int, DwAll K H (ns.map V.int) (ns.map WData.int)
  | [] => .nil
  | n :: r => .cons (.int n) (dw_ints r)
theorem ints_dw {K : PySem.W.Frag} {H : Hp} : ∀ (ns : List Int) (xs : List V), DwAll K H xs (ns.map WData.int) → xs = ns.map V.int
  | [], xs, h => by
    cases h
    rfl
  | n :: r, xs, h => by
    cases h with
    | cons h1 h2 =>
      cases h1
      rw [ints_dw r _ h2] <;> rfl
section
variable {P : Program} {w : World} {K : PySem.W.Frag} {H : Hp} {h : Heap} {R : PySem.W.WRecords} {cl : Str → Option Addr}
theorem sqL_at {a : Addr} {xs : List V} (hok : HOk P w H h) (KX : K.In h) (q : SqL K H a xs) : ∃ (its : List Value) (o : Obj) (n : Nat), Vals xs its ∧ h.get? a = some o ∧ o.cls = .type "list" ∧ o.data = .seq its.toArray n := by
  rcases q with q | ⟨o, its, n, e, hc, _, hd, _, hv⟩
  · obtain ⟨_, its, n, hv, e⟩ := (show ObjOk P w H h a (.lst xs) from q.ok hok)
    exact ⟨its, _, n, hv, e, rfl, rfl⟩
  · exact ⟨its.toList, o, n, hv, KX _ _ e, hc, by simp [hd]⟩
theorem sqT_at {a : Addr} {xs : List V} (hok : HOk P w H h) (KX : K.In h) (q : SqT K H a xs) : ∃ (its : List Value) (o : Obj) (n : Nat), Vals xs its ∧ h.get? a = some o ∧ o.cls = .type "tuple" ∧ o.data = .seq its.toArray n := by
  rcases q with q | ⟨o, its, n, e, hc, hd, _, hv⟩
  · obtain ⟨_, its, hv, o, e, hc, n, hd⟩ := (show ObjOk P w H h a (.tup xs) from q.ok hok)
    exact ⟨its, o, n, hv, e, hc, hd⟩
  · exact ⟨its.toList, o, n, hv, KX _ _ e, hc, by simp [hd]⟩
mutual
theorem Dw.reads (hok : HOk P w H h) (KX : K.In h) : ∀ (d : WData) (v : V) (u : Value), Dw K H v d → RelV v u → ∃ as, ReadsW R cl h u d as
  | .none, _, _, x, r => by
    cases x
    cases r
    exact ⟨_, ReadsW.none⟩
  | .bool b, _, _, x, r => by
    cases x
    cases r
    exact ⟨_, ReadsW.bool b⟩
  | .int i, _, _, x, r => by
    cases x
    obtain ⟨t, rfl⟩ := r
    exact ⟨_, ReadsW.int i t⟩
  | .str s, _, _, x, r => by
    cases x
    obtain ⟨t, rfl⟩ := r
    exact ⟨_, ReadsW.str s t⟩
  | .bytes b, _, _, x, r => by
    cases x
    obtain ⟨t, rfl⟩ := r
    exact ⟨_, ReadsW.bytes _ t⟩
  | .list ds, _, _, x, r => by
    cases x with
    | lst hs ha =>
      cases r
      obtain ⟨its, o, n, rv, ho, hc, hd⟩ := sqL_at hok KX hs
      obtain ⟨as, hr⟩ := Dw.readsAll hok KX ds _ its ha rv
      exact ⟨_, ReadsW.list ho hc hd hr⟩
  | .tuple ds, _, _, x, r => by
    cases x with
    | tup hs ha =>
      cases r
      obtain ⟨its, o, n, rv, ho, hc, hd⟩ := sqT_at hok KX hs
      obtain ⟨as, hr⟩ := Dw.readsAll hok KX ds _ its ha rv
      exact ⟨_, ReadsW.tuple ho hc hd hr⟩
  | .float _, _, _, x, _ => by cases x
  | .dict _, _, _, x, _ => by cases x
  | .bytearray _, _, _, x, _ => by cases x
  | .set _, _, _, x, _ => by cases x
  | .frozenset _, _, _, x, _ => by cases x
  | .obj _ _, _, _, x, _ => by cases x
theorem Dw.readsAll (hok : HOk P w H h) (KX : K.In h) : ∀ (ds : List WData) (vs : List V) (us : List Value), DwAll K H vs ds → Vals vs us → ∃ as, ReadsAllW R cl h us ds as
  | [], _, _, x, r => by
    cases x
    cases r
    exact ⟨_, ReadsAllW.nil⟩
  | d :: ds, _, _, x, r => by
    cases x with
    | cons h1 h2 =>
      cases r with
      | cons r1 r2 =>
        obtain ⟨as, q1⟩ := Dw.reads hok KX d _ _ h1 r1
        obtain ⟨bs, q2⟩ := Dw.readsAll hok KX ds _ _ h2 r2
        exact ⟨_, ReadsAllW.cons q1 q2⟩
end
end
/-! ### the arguments -/
mutual
/-- data that a codec tells -/
def plW : WData → Bool
  | .none => true
  | .bool _ => true
  | .int _ => true
  | .str _ => true
  | .bytes _ => true
  | .list xs => plWs xs
  | .tuple xs => plWs xs
  | _ => false
def plWs : List WData → Bool
  | [] => true
  | x :: r => plW x && plWs r
end
theorem plWs_map {α : Type} {f : α → WData} (h : ∀ a, plW (f a) = true) : ∀ l : List α, plWs (l.map f) = true
  | [] => rfl
  | x :: r => by
    show (plW (f x) && plWs (r.map f)) = true
    rw [h x, plWs_map h r] <;> rfl
theorem pl_enc : ∀ (c : Codec) (a : c.denote), plW (c.enc a) = true
  | .unit, _ => rfl
  | .bool, _ => rfl
  | .int _ _, _ => rfl
  | .nat _ _, _ => rfl
  | .u8, _ => rfl
  | .bytes _ _, _ => rfl
  | .text _ _ _ _, _ => rfl
  | .list _ _ c, a => plWs_map (fun x => pl_enc c x) a
  | .pair c d, a => by
    show (plW (c.enc a.1) && (plW (d.enc a.2) && true)) = true
    rw [pl_enc c a.1, pl_enc d a.2] <;> rfl
  | .triple c d e, a => by
    show (plW (c.enc a.1) && (plW (d.enc a.2.1) && (plW (e.enc a.2.2) && true))) = true
    rw [pl_enc c a.1, pl_enc d a.2.1, pl_enc e a.2.2] <;> rfl
  | .option c, none => rfl
  | .option c, some x => pl_enc c x
theorem pl_encAll : ∀ (cs : List Codec) (a : Codec.denoteAll cs), plWs (Codec.encAll cs a) = true
  | [], _ => rfl
  | c :: cs, a => by
    show (plW (c.enc a.1) && plWs (Codec.encAll cs a.2)) = true
    rw [pl_enc c a.1, pl_encAll cs a.2] <;> rfl
theorem weight_mem : ∀ {xs : List WData} {d : WData}, d ∈ xs → d.weight ≤ WData.weightAll xs
  | [], d, h => absurd h (by simp)
  | x :: r, d, h => by
    show d.weight ≤ x.weight + 1 + WData.weightAll r
    rcases List.mem_cons.mp h with e | m
    · rw [e]
      omega
    · have z := weight_mem m
      omega
def toV : Value → V
  | .none => .non
  | .bool b => .bl b
  | .int i _ => .int i
  | .str x _ => .str x
  | .bytes b _ => .byt b
  | .ref a => .ref a
  | _ => .non
/-- a value of the arguments, its objects among A -/
def OkU (A : List Addr) : Value → Prop
  | .none => True
  | .bool _ => True
  | .int _ _ => True
  | .str _ _ => True
  | .bytes _ _ => True
  | .ref a => a ∈ A
  | _ => False
theorem OkU.mono {A B : List Addr} (h : ∀ a ∈ A, a ∈ B) : ∀ {u : Value}, OkU A u → OkU B u := fun {u} x => by
  cases u with
  | ref a => exact h a x
  | none => trivial
  | bool b => trivial
  | int i t => trivial
  | str s t => trivial
  | bytes b t => trivial
  | _ => exact False.elim x
theorem relV_toV {A : List Addr} {u : Value} (x : OkU A u) : RelV (toV u) u := by
  cases u with
  | ref a => rfl
  | none => rfl
  | bool b => rfl
  | int i t => exact ⟨t, rfl⟩
  | str s t => exact ⟨t, rfl⟩
  | bytes b t => exact ⟨t, rfl⟩
  | _ => exact False.elim x
theorem vals_toV {A : List Addr} : ∀ {vs : List Value}, (∀ u ∈ vs, OkU A u) → Vals (vs.map toV) vs
  | [], _ => .nil
  | u :: r, h => .cons (relV_toV (h u (List.mem_cons_self ..))) (vals_toV fun x hx => h x (List.mem_cons_of_mem _ hx))
/-- an object of the arguments -/
def ArgOb (h : Heap) (A : List Addr) (a : Addr) : Prop := ∃ vs : List Value, vs.length ≤ sizeLine ∧ (∀ u ∈ vs, OkU A u) ∧
  (h.get? a = some { cls := .type "list", data := .seq vs.toArray } ∨ h.get? a = some { cls := .type "tuple", data := .seq vs.toArray })
theorem ArgOb.mono {h : Heap} {A B : List Addr} {a : Addr} (k : ∀ a ∈ A, a ∈ B) (x : ArgOb h A a) : ArgOb h B a := by
  obtain ⟨vs, h1, h2, h3⟩ := x
  exact ⟨vs, h1, fun u hu => (h2 u hu).mono k, h3⟩
theorem wellAll_len {P : Params} {h : Heap} : ∀ {vs : List Value} {ds : List WData}, WellAll P h vs ds → vs.length = ds.length
  | _, _, .nil => rfl
  | _, _, .cons _ b => by
    show _ + 1 = _ + 1
    rw [wellAll_len b]
theorem well_list {P : Params} {h : Heap} {v : Value} {ds : List WData} (x : Well P h v (.list ds)) : ∃ (a : Addr) (vs : List Value), v = .ref a ∧ h.get? a = some { cls := .type "list", data := .seq vs.toArray } ∧ WellAll P h vs ds := by
  cases x with
  | list ho hall => exact ⟨_, _, rfl, ho, hall⟩
theorem well_tuple {P : Params} {h : Heap} {v : Value} {ds : List WData} (x : Well P h v (.tuple ds)) : ∃ (a : Addr) (vs : List Value), v = .ref a ∧ h.get? a = some { cls := .type "tuple", data := .seq vs.toArray } ∧ WellAll P h vs ds := by
  cases x with
  | tuple ho hall => exact ⟨_, _, rfl, ho, hall⟩
theorem well_cons {P : Params} {h : Heap} {us : List Value} {d : WData} {ds : List WData} (x : WellAll P h us (d :: ds)) : ∃ (v : Value) (vs : List Value), us = v :: vs ∧ Well P h v d ∧ WellAll P h vs ds := by
  cases x with
  | cons a b => exact ⟨_, _, rfl, a, b⟩
theorem line_of {n : Nat} (h : n ≤ 1048576) : n ≤ sizeLine := Nat.le_trans h (by decide)
section
variable {P : Params} {h : Heap}
mutual
theorem area_one : ∀ (d : WData) (v : Value), Well P h v d → plW d = true → d.weight ≤ 1048576 → ∃ A : List Addr, OkU A v ∧ ∀ a ∈ A, ArgOb h A a
  | .none, _, x, _, _ => by
    cases x
    exact ⟨[], trivial, fun a m => absurd m (by simp)⟩
  | .bool b, _, x, _, _ => by
    cases x
    exact ⟨[], trivial, fun a m => absurd m (by simp)⟩
  | .int i, _, x, _, _ => by
    cases x
    exact ⟨[], trivial, fun a m => absurd m (by simp)⟩
  | .str s, _, x, _, _ => by
    cases x
    exact ⟨[], trivial, fun a m => absurd m (by simp)⟩
  | .bytes b, _, x, _, _ => by
    cases x
    exact ⟨[], trivial, fun a m => absurd m (by simp)⟩
  | .list ds, _, x, p, z => by
    obtain ⟨a, vs, rfl, ho, hall⟩ := well_list x
    have z2 : WData.weightAll ds ≤ 1048576 := z
    obtain ⟨A, h1, h2⟩ := area_all ds _ hall p fun d hd => Nat.le_trans (weight_mem hd) z2
    have k : ∀ b ∈ A, b ∈ a :: A := fun b hb => List.mem_cons_of_mem _ hb
    refine ⟨a :: A, List.mem_cons_self .., fun b hb => ?_⟩
    rcases List.mem_cons.mp hb with e | m
    · rw [e]
      exact ⟨vs, line_of (by rw [wellAll_len hall]; exact Nat.le_trans (PySem.W.length_le_weightAllW ds) z2), fun u hu => (h1 u hu).mono k, .inl ho⟩
    · exact (h2 b m).mono k
  | .tuple ds, _, x, p, z => by
    obtain ⟨a, vs, rfl, ho, hall⟩ := well_tuple x
    have z2 : WData.weightAll ds ≤ 1048576 := z
    obtain ⟨A, h1, h2⟩ := area_all ds _ hall p fun d hd => Nat.le_trans (weight_mem hd) z2
    have k : ∀ b ∈ A, b ∈ a :: A := fun b hb => List.mem_cons_of_mem _ hb
    refine ⟨a :: A, List.mem_cons_self .., fun b hb => ?_⟩
    rcases List.mem_cons.mp hb with e | m
    · rw [e]
      exact ⟨vs, line_of (by rw [wellAll_len hall]; exact Nat.le_trans (PySem.W.length_le_weightAllW ds) z2), fun u hu => (h1 u hu).mono k, .inr ho⟩
    · exact (h2 b m).mono k
  | .float _, _, _, p, _ => Bool.noConfusion (show false = true from p)
  | .dict _, _, _, p, _ => Bool.noConfusion (show false = true from p)
  | .bytearray _, _, _, p, _ => Bool.noConfusion (show false = true from p)
  | .set _, _, _, p, _ => Bool.noConfusion (show false = true from p)
  | .frozenset _, _, _, p, _ => Bool.noConfusion (show false = true from p)
  | .obj _ _, _, _, p, _ => Bool.noConfusion (show false = true from p)
theorem area_all : ∀ (ds : List WData) (vs : List Value), WellAll P h vs ds → plWs ds = true → (∀ d ∈ ds, d.weight ≤ 1048576) → ∃ A : List Addr, (∀ u ∈ vs, OkU A u) ∧ ∀ a ∈ A, ArgOb h A a
  | [], _, x, _, _ => by
    cases x
    exact ⟨[], fun u m => absurd m (by simp), fun a m => absurd m (by simp)⟩
  | d :: ds, _, x, p, z => by
    obtain ⟨v, vs, rfl, x1, x2⟩ := well_cons x
    have q : plW d = true ∧ plWs ds = true := Bool.and_eq_true_iff.mp p
    obtain ⟨A, a1, a2⟩ := area_one d v x1 q.1 (z d (List.mem_cons_self ..))
    obtain ⟨B, b1, b2⟩ := area_all ds vs x2 q.2 fun e he => z e (List.mem_cons_of_mem _ he)
    have kA : ∀ b ∈ A, b ∈ A ++ B := fun b hb => List.mem_append.mpr (.inl hb)
    have kB : ∀ b ∈ B, b ∈ A ++ B := fun b hb => List.mem_append.mpr (.inr hb)
    refine ⟨A ++ B, fun u hu => ?_, fun b hb => ?_⟩
    · rcases List.mem_cons.mp hu with e | m
      · rw [e]
        exact a1.mono kA
      · exact (b1 u m).mono kB
    · rcases List.mem_append.mp hb with m | m
      · exact (a2 b m).mono kA
      · exact (b2 b m).mono kB
end
end
/-- what is tracked of an argument's object -/
def hoOf (o : Obj) : Option HO := match o.data with
  | .seq vs _ => if (o.cls == Value.type "list") = true then some (.frz o (.lst (vs.toList.map toV))) else some (.frz o (.tup (vs.toList.map toV)))
  | _ => none
def argH (K : PySem.W.Frag) (h : Heap) (A : List Addr) : Hp := fun b => if b ∈ A then (if (K.lookup b).isNone = true then (h.get? b).bind hoOf else none) else none
/-- nothing is tracked but what is known to the object -/
def OnlyF (H : Hp) : Prop := ∀ b, H b = none ∨ ∃ o u, H b = some (.frz o u)
theorem hoOf_lst (vs : List Value) : hoOf { cls := .type "list", data := .seq vs.toArray } = some (.frz { cls := .type "list", data := .seq vs.toArray } (.lst (vs.map toV))) := by
  show (if (Value.type "list" == Value.type "list") = true then some (HO.frz { cls := .type "list", data := .seq vs.toArray } (.lst (vs.toArray.toList.map toV))) else some (HO.frz { cls := .type "list", data := .seq vs.toArray } (.tup (vs.toArray.toList.map toV)))) = _
  rw [if_pos (beq_self_eq_true _)]
theorem hoOf_tup (vs : List Value) : hoOf { cls := .type "tuple", data := .seq vs.toArray } = some (.frz { cls := .type "tuple", data := .seq vs.toArray } (.tup (vs.map toV))) := by
  show (if (Value.type "tuple" == Value.type "list") = true then some (HO.frz { cls := .type "tuple", data := .seq vs.toArray } (.lst (vs.toArray.toList.map toV))) else some (HO.frz { cls := .type "tuple", data := .seq vs.toArray } (.tup (vs.toArray.toList.map toV)))) = _
  rw [if_neg (by decide)]
section
variable {P : Program} {w : World} {K : PySem.W.Frag} {h : Heap} {A : List Addr}
theorem argH_at {b : Addr} {o : Obj} (hb : b ∈ A) (hk : K.lookup b = none) (e : h.get? b = some o) : argH K h A b = hoOf o := by
  unfold argH
  rw [if_pos hb, hk, if_pos (show (none : Option Obj).isNone = true from rfl), e] <;> rfl
theorem of_argH {b : Addr} {u : HO} (q : argH K h A b = some u) : b ∈ A ∧ K.lookup b = none := by
  unfold argH at q
  by_cases hb : b ∈ A
  · rw [if_pos hb] at q
    cases hk : K.lookup b with
    | none => exact ⟨hb, rfl⟩
    | some o =>
      rw [hk, if_neg (by simp)] at q
      cases q
  · rw [if_neg hb] at q
    cases q
/-- what stands tracked -/
theorem argH_is (ar : ∀ a ∈ A, ArgOb h A a) {b : Addr} {u : HO} (q : argH K h A b = some u) : K.lookup b = none ∧ ∃ vs : List Value, vs.length ≤ sizeLine ∧ (∀ u ∈ vs, OkU A u) ∧
    ((h.get? b = some { cls := .type "list", data := .seq vs.toArray } ∧ u = .frz { cls := .type "list", data := .seq vs.toArray } (.lst (vs.map toV))) ∨
     (h.get? b = some { cls := .type "tuple", data := .seq vs.toArray } ∧ u = .frz { cls := .type "tuple", data := .seq vs.toArray } (.tup (vs.map toV)))) := by
  obtain ⟨hb, hk⟩ := of_argH q
  obtain ⟨vs, h1, h2, h3⟩ := ar b hb
  refine ⟨hk, vs, h1, h2, ?_⟩
  rcases h3 with e | e
  · rw [argH_at hb hk e, hoOf_lst] at q
    exact .inl ⟨e, (Option.some.inj q).symm⟩
  · rw [argH_at hb hk e, hoOf_tup] at q
    exact .inr ⟨e, (Option.some.inj q).symm⟩
theorem argH_only (ar : ∀ a ∈ A, ArgOb h A a) : OnlyF (argH K h A) := fun b => by
  cases q : argH K h A b with
  | none => exact .inl rfl
  | some u =>
    obtain ⟨_, vs, _, _, ⟨_, e⟩ | ⟨_, e⟩⟩ := argH_is ar q
    · exact .inr ⟨_, _, by rw [e]⟩
    · exact .inr ⟨_, _, by rw [e]⟩
theorem argH_ok (ar : ∀ a ∈ A, ArgOb h A a) : HOk P w (argH K h A) h := fun b u q => by
  obtain ⟨_, vs, h1, h2, ⟨e, rfl⟩ | ⟨e, rfl⟩⟩ := argH_is ar q
  · exact ⟨e, by rw [List.length_map]; exact h1, vs, _, vals_toV h2, e⟩
  · exact ⟨e, by rw [List.length_map]; exact h1, vs, vals_toV h2, _, e, rfl, _, rfl⟩
theorem seq_inj {c c' : Value} {vs us : List Value} (e : (some { cls := c, data := .seq vs.toArray } : Option Obj) = some { cls := c', data := .seq us.toArray }) : c = c' ∧ vs = us := by
  have e1 := Option.some.inj e
  have e2 : c = c' := congrArg Obj.cls e1
  have e3 : Data.seq vs.toArray = Data.seq us.toArray := congrArg Obj.data e1
  injection e3 with e4
  refine ⟨e2, ?_⟩
  have e5 := congrArg Array.toList e4
  simpa using e5
/-- a list argument -/
theorem argL (KX : K.In h) (ar : ∀ a ∈ A, ArgOb h A a) {a : Addr} {vs : List Value} (ha : a ∈ A) (e : h.get? a = some { cls := .type "list", data := .seq vs.toArray }) : (∀ u ∈ vs, OkU A u) ∧ SqL K (argH K h A) a (vs.map toV) := by
  obtain ⟨us, h1, h2, h3⟩ := ar a ha
  have hu : us = vs := by
    rcases h3 with q | q
    · rw [e] at q
      exact (seq_inj q).2.symm
    · rw [e] at q
      exact absurd (Value.type.inj (seq_inj q).1) (by decide)
  subst hu
  refine ⟨h2, ?_⟩
  cases hk : K.lookup a with
  | none => exact .inl (.inr ⟨_, by rw [argH_at ha hk e, hoOf_lst]⟩)
  | some o =>
    have e2 := KX a o hk
    rw [e] at e2
    obtain rfl := Option.some.inj e2
    exact .inr ⟨_, us.toArray, _, hk, rfl, rfl, rfl, by rw [List.size_toArray]; exact h1, by simpa using vals_toV h2⟩
theorem argT (KX : K.In h) (ar : ∀ a ∈ A, ArgOb h A a) {a : Addr} {vs : List Value} (ha : a ∈ A) (e : h.get? a = some { cls := .type "tuple", data := .seq vs.toArray }) : (∀ u ∈ vs, OkU A u) ∧ SqT K (argH K h A) a (vs.map toV) := by
  obtain ⟨us, h1, h2, h3⟩ := ar a ha
  have hu : us = vs := by
    rcases h3 with q | q
    · rw [e] at q
      exact absurd (Value.type.inj (seq_inj q).1) (by decide)
    · rw [e] at q
      exact (seq_inj q).2.symm
  subst hu
  refine ⟨h2, ?_⟩
  cases hk : K.lookup a with
  | none => exact .inl (.inr ⟨_, by rw [argH_at ha hk e, hoOf_tup]⟩)
  | some o =>
    have e2 := KX a o hk
    rw [e] at e2
    obtain rfl := Option.some.inj e2
    exact .inr ⟨_, us.toArray, _, hk, rfl, rfl, by rw [List.size_toArray]; exact h1, by simpa using vals_toV h2⟩
mutual
theorem dw_one {Pm : Params} (KX : K.In h) (ar : ∀ a ∈ A, ArgOb h A a) : ∀ (d : WData) (v : Value), Well Pm h v d → plW d = true → OkU A v → Dw K (argH K h A) (toV v) d
  | .none, _, x, _, _ => by
    cases x
    exact .non
  | .bool b, _, x, _, _ => by
    cases x
    exact .bl b
  | .int i, _, x, _, _ => by
    cases x
    exact .int i
  | .str s, _, x, _, _ => by
    cases x
    exact .str s
  | .bytes b, _, x, _, _ => by
    cases x
    have z := Dw.byt (K := K) (H := argH K h A) b.toArray
    exact z
  | .list ds, _, x, p, hu => by
    obtain ⟨a, vs, rfl, ho, hall⟩ := well_list x
    obtain ⟨h2, hs⟩ := argL KX ar hu ho
    exact .lst hs (dw_all KX ar ds _ hall p h2)
  | .tuple ds, _, x, p, hu => by
    obtain ⟨a, vs, rfl, ho, hall⟩ := well_tuple x
    obtain ⟨h2, hs⟩ := argT KX ar hu ho
    exact .tup hs (dw_all KX ar ds _ hall p h2)
  | .float _, _, _, p, _ => Bool.noConfusion (show false = true from p)
  | .dict _, _, _, p, _ => Bool.noConfusion (show false = true from p)
  | .bytearray _, _, _, p, _ => Bool.noConfusion (show false = true from p)
  | .set _, _, _, p, _ => Bool.noConfusion (show false = true from p)
  | .frozenset _, _, _, p, _ => Bool.noConfusion (show false = true from p)
  | .obj _ _, _, _, p, _ => Bool.noConfusion (show false = true from p)
theorem dw_all {Pm : Params} (KX : K.In h) (ar : ∀ a ∈ A, ArgOb h A a) : ∀ (ds : List WData) (vs : List Value), WellAll Pm h vs ds → plWs ds = true → (∀ u ∈ vs, OkU A u) → DwAll K (argH K h A) (vs.map toV) ds
  | [], _, x, _, _ => by
    cases x
    exact .nil
  | d :: ds, _, x, p, hu => by
    obtain ⟨v, vs, rfl, x1, x2⟩ := well_cons x
    have q : plW d = true ∧ plWs ds = true := Bool.and_eq_true_iff.mp p
    exact .cons (dw_one KX ar d v x1 q.1 (hu _ (List.mem_cons_self ..))) (dw_all KX ar ds vs x2 q.2 fun u m => hu u (List.mem_cons_of_mem _ m))
end
end
/-! ### the call -/
theorem spec_call {P : Program} {w : World} {K : PySem.W.Frag} {mg mb : Str → Option Value} {CX : CXT} {k : Nat} {fa : Addr} {fd : FuncData} {ps : List Str} {sp : Sp} {s₁ : Shared} {vals : List Value} {ds : List WData} {R : PySem.W.WRecords} {cl : Str → Option Addr} {d0 : WData}
    (KX : K.In s₁.heap) (hns : s₁.heap.Ns mainGlobals mg) (hb : s₁.heap.Ns builtinsNs mb) (hbb : ∀ x : Str, x ≠ "__name__" → mb x = bootBuiltins x) (hlim : s₁.heap.NoLimit) (hg : s₁.gens = #[])
    (hwl : WellAll w.params s₁.heap vals ds) (hpl : plWs ds = true) (hwt : ∀ d ∈ ds, d.weight ≤ 1048576) (hr : Room k callerA)
    (F : ∀ base : Heap, K.In base → base.Ns mainGlobals mg → FnOk P w K mg base CX k fa fd ps sp) (hbind : ∀ (s : Shared) (us : List Value), us.length = ps.length → BindsTo s fd ⟨us, []⟩ (ps.zip us)) (hlen : ds.length = ps.length)
    (hsp : ∀ (H : Hp) (xs : List V), OnlyF H → DwAll K H xs ds → sp xs H (fun v H' => Dw K H' v d0) fun _ _ _ => False)
    (hCX : ∀ H e s', CX [] H s₁ (fun _ _ _ => False) e s' → False) :
    codeAny (model P w) callerA (.call (.ref fa) ⟨vals, []⟩) (fun r s' => ∃ u as, r = .ok (.ret u) ∧ ReadsW R cl s'.heap u d0 as ∧ OldK s₁.heap s'.heap ∧ s'.os = s₁.os ∧ AllBare s'.gens) s₁ := by
  obtain ⟨A, ho, ar⟩ := area_all ds vals hwl hpl hwt
  have hO : OnlyF (argH K s₁.heap A) := argH_only ar
  have hok : HOk P w (argH K s₁.heap A) s₁.heap := argH_ok ar
  have hS := dw_all KX ar ds vals hwl hpl ho
  have hV := vals_toV ho
  have hK : ∀ b u, argH K s₁.heap A b = some u → K.lookup b = none := fun b u q => (argH_is ar q).1
  have noA : ∀ {b : Addr} {o : Obj} {es : Array DictEntry} {ep : Nat}, s₁.heap.get? b = some o → o.data = .dict es ep → argH K s₁.heap A b = none := fun {b o es ep} e d => by
    cases q : argH K s₁.heap A b with
    | none => rfl
    | some u =>
      obtain ⟨_, vs, _, _, ⟨e2, _⟩ | ⟨e2, _⟩⟩ := argH_is ar q
      · rw [e2] at e
        cases e
        have d' : Data.seq vs.toArray _ = Data.dict es ep := d
        cases d'
      · rw [e2] at e
        cases e
        have d' : Data.seq vs.toArray _ = Data.dict es ep := d
        cases d'
  generalize argH K s₁.heap A = H at hO hok hS hK noA
  have base_of : ∀ {b : Addr} {o : Obj}, s₁.heap.get? b = some o → H b = none → (hidT s₁.heap H).get? b = some o := fun e n => hidT_get e n
  have nsK : ∀ {b : Addr} {m : Str → Option Value}, s₁.heap.Ns b m → (hidT s₁.heap H).Ns b m := fun {b m} ⟨o, es, ep, e, d, r⟩ => ⟨o, es, ep, base_of e (noA e d), d, r⟩
  have nK : ∀ b o, K.lookup b = some o → H b = none := fun b o e => by
    cases q : H b with
    | none => rfl
    | some u =>
      rw [hK b u q] at e
      cases e
  have hKb : K.In (hidT s₁.heap H) := fun b o e => base_of (KX b o e) (nK b o e)
  have hM : Mod K mg (hidT s₁.heap H) := ⟨hKb, nsK hns, ⟨mb, nsK hb, hbb⟩, let ⟨mc, h1, h2⟩ := hlim; ⟨mc, nsK h1, h2⟩⟩
  have e0 : Env0 P w K mg (hidT s₁.heap H) callerA [] s₁ H := ⟨rfl, hM, fun b o e => of_hidT e, Nat.le_of_eq (hidT_size _ _), trivial, fun b hb => absurd (show b ∈ ([] : List Addr) from hb) (by simp), hok, .of_eq hg⟩
  have hl : vals.length = ps.length := by rw [wellAll_len hwl]; exact hlen
  refine codeAny_mono ((F _ hKb (nsK hns)).run callerA [] s₁ H ⟨vals, []⟩ vals (vals.map toV) _ _ hr e0 (hbind s₁ vals hl) hV (hsp H _ hO hS)) fun r s' x => ?_
  cases r with
  | error e => exact (hCX H e s' x).elim
  | ok fl =>
    cases fl with
    | next => exact False.elim x
    | brk => exact False.elim x
    | cont => exact False.elim x
    | ret u =>
      obtain ⟨v, H', os, bare, un, hok', r', q⟩ := x
      have kept : ∀ b o, s₁.heap.get? b = some o → s'.heap.get? b = some o := fun b o e => by
        cases q2 : H b with
        | none => exact un.keep b o e q2 (by intro z; exact absurd (show b ∈ ([] : List Addr) from z) (by simp)) (by simp)
        | some u2 =>
          rcases hO b with z | ⟨ob, u3, z⟩
          · rw [q2] at z
            cases z
          · have z2 := un.frzs b ob _ z
            obtain ⟨e1, _⟩ := hok b _ z
            obtain ⟨e2, _⟩ := hok' b _ z2
            rw [e] at e1
            cases e1
            exact e2
      have KX' : K.In s'.heap := fun b o e => kept b o (KX b o e)
      obtain ⟨as, hrd⟩ := Dw.reads (R := R) (cl := cl) hok' KX' d0 v u q r'
      exact ⟨u, as, rfl, hrd, OldK.of_keep kept, os, bare⟩
/-! ### the row -/
theorem layable_weight {ds : List WData} (h : WData.layableAll ds = true) : ∀ d ∈ ds, d.weight ≤ 1048576 := fun d hd =>
  (PySem.W.layableW_iff.mp (List.all_eq_true.mp h d hd)).2.2
theorem encAll_len : ∀ (cs : List Codec) (a : Codec.denoteAll cs), (Codec.encAll cs a).length = cs.length
  | [], _ => rfl
  | c :: cs, a => by
    show (Codec.encAll cs a.2).length + 1 = cs.length + 1
    rw [encAll_len cs a.2]
/-- the goal that k_headS leaves (case hc), from the promise of the row's def: whatever the arguments that the codecs let and the row asks for, the def gives what stands for enc (f ..) -/
theorem walk_spec {r : OpenSpec} {k : Nat} {q : Program} {loose : List Str} {XP : (Str → Option Value) → Heap → Prop} {YP : World → Heap → Prop} {d : DefRec} {K : Params → PySem.W.Frag} {CX : World → CXT} {ps : List Str} {sp : World → Sp}
    (hwell : r.wellSaid = true) (hdf : d.params.defaults = []) (hlen : r.args.length = ps.length) (hr : Room k callerA)
    (hY : ∀ (w : World) (h : Heap), YP w h → (K w.params).In h)
    (F : ∀ (w : World) (mg : Str → Option Value) (fa : Addr) (h : Heap), YP w h → (K w.params).In h → h.Ns mainGlobals mg → mg d.name = some (.ref fa) →
      ∃ fd : FuncData, (∀ (s : Shared) (us : List Value), us.length = ps.length → BindsTo s fd ⟨us, []⟩ (ps.zip us)) ∧
        ∀ base : Heap, (K w.params).In base → base.Ns mainGlobals mg → FnOk r.prog w (K w.params) mg base (CX w) k fa fd ps (sp w))
    (hsp : ∀ (w : World) (H : Hp) (xs : List V) (a : Codec.denoteAll r.args), OnlyF H → Codec.withinAll r.args a = true → Codec.app r.args r.asked a = true → DwAll (K w.params) H xs (Codec.encAll r.args a) →
      sp w xs H (fun v H' => Dw (K w.params) H' v (r.ret.enc (Codec.app r.args r.f a))) fun _ _ _ => False)
    (hCX : ∀ (w : World) (H : Hp) (s : Shared) (e : Value) (s' : Shared), CX w [] H s (fun _ _ _ => False) e s' → False) :
    PySem.W.WalkOS q loose XP YP r d [] (fun f vs => PySem.call f vs) := by
  intro w s_0 s₁ mg mb G Y fa o pm cd doc dV kV ho hd hcd hD hmg hg args vals as hpre hlay hrd hwl hlo
  obtain ⟨a, e1, e2⟩ := PySem.W.os_pre_some hpre
  obtain ⟨e3, hwi⟩ := Codec.encAll_of_decAll r.args args a e1
  subst e3
  have KX := hY w _ Y
  obtain ⟨fd, hb, hF⟩ := F w mg fa _ Y KX G.T.g hmg
  refine PySem.W.enter_call (codeAny_mono (spec_call (R := []) (cl := classAt s_0.heap) (d0 := r.ret.enc (Codec.app r.args r.f a)) KX G.T.g G.T.b G.T.builtins G.T.nolimit hg hwl (pl_encAll _ _) (layable_weight hlay) hr hF hb (by rw [encAll_len]; exact hlen)
    (fun H xs hO hS => hsp w H xs a hO hwi e2 hS) fun H e s' => hCX w H s₁ e s') fun r' s' hq => ?_)
  obtain ⟨u, as', rfl, h1, h2, h3, h4⟩ := hq
  exact ⟨.inl ⟨u, _, as', rfl, fun _ => rfl, h1, (OpenSpec.post_iff hwell hwi _ _).mpr rfl, fun z => Bool.noConfusion (show false = true from z)⟩, h2, h3, h4⟩
/-- the same where the promise hangs on the written part alone -/
theorem walk_specK {r : OpenSpec} {k : Nat} {q : Program} {loose : List Str} {XP : (Str → Option Value) → Heap → Prop} {YP : World → Heap → Prop} {d : DefRec} {K : Params → PySem.W.Frag} {CX : CXT} {ps : List Str} {sp : PySem.W.Frag → Sp}
    (hwell : r.wellSaid = true) (hdf : d.params.defaults = []) (hlen : r.args.length = ps.length) (hr : Room k callerA)
    (hY : ∀ (w : World) (h : Heap), YP w h → (K w.params).In h)
    (F : ∀ (w : World) (mg : Str → Option Value) (fa : Addr) (h : Heap), YP w h → (K w.params).In h → h.Ns mainGlobals mg → mg d.name = some (.ref fa) →
      ∃ fd : FuncData, (∀ (s : Shared) (us : List Value), us.length = ps.length → BindsTo s fd ⟨us, []⟩ (ps.zip us)) ∧
        ∀ base : Heap, (K w.params).In base → base.Ns mainGlobals mg → FnOk r.prog w (K w.params) mg base CX k fa fd ps (sp (K w.params)))
    (hsp : ∀ (K : PySem.W.Frag) (H : Hp) (xs : List V) (a : Codec.denoteAll r.args), OnlyF H → Codec.withinAll r.args a = true → Codec.app r.args r.asked a = true → DwAll K H xs (Codec.encAll r.args a) →
      sp K xs H (fun v H' => Dw K H' v (r.ret.enc (Codec.app r.args r.f a))) fun _ _ _ => False)
    (hCX : ∀ (H : Hp) (s : Shared) (e : Value) (s' : Shared), CX [] H s (fun _ _ _ => False) e s' → False) :
    PySem.W.WalkOS q loose XP YP r d [] (fun f vs => PySem.call f vs) :=
  walk_spec (K := K) (CX := fun _ => CX) (sp := fun w => sp (K w.params)) hwell hdf hlen hr hY F (fun w H xs a h1 h2 h3 h4 => hsp (K w.params) H xs a h1 h2 h3 h4) fun _ H s e s' => hCX H s e s'
end L2
-- rests on (row put in by the clerk, for the bench that shows a file only what it spells): KE.SpHead KE.OsShapes
end
end
section
set_option Elab.async false
set_option linter.all false
set_option maxRecDepth 100000
set_option maxHeartbeats 2000000
namespace L2
open PySem PySem.Spec PyProof.Rows

/-! ### sorted of a list of pairs of ints -/
theorem perm_map_ex {α β : Type} {f : α → β} : ∀ {l m : List β}, l.Perm m → ∀ {xs : List α}, m = xs.map f → ∃ ys : List α, ys.Perm xs ∧ l = ys.map f := by
  intro l m h
  induction h with
  | nil =>
    intro xs e
    cases xs with
    | nil => exact ⟨[], List.Perm.refl _, rfl⟩
    | cons _ _ => cases e
  | cons x _ ih =>
    intro xs e
    cases xs with
    | nil => cases e
    | cons y xs =>
      obtain ⟨ys, p, e2⟩ := ih (List.cons.inj e).2
      exact ⟨y :: ys, p.cons y, by rw [List.map_cons, (List.cons.inj e).1, e2]⟩
  | swap x y l =>
    intro xs e
    cases xs with
    | nil => cases e
    | cons a xs =>
      cases xs with
      | nil => cases (List.cons.inj e).2
      | cons b xs =>
        refine ⟨b :: a :: xs, List.Perm.swap a b xs, ?_⟩
        have e1 := (List.cons.inj e).1
        have e2 := (List.cons.inj (List.cons.inj e).2).1
        have e3 := (List.cons.inj (List.cons.inj e).2).2
        rw [List.map_cons, List.map_cons, e1, e2, e3]
  | trans _ _ ih1 ih2 =>
    intro xs e
    obtain ⟨ys, p, e2⟩ := ih2 e
    obtain ⟨zs, p2, e3⟩ := ih1 e2
    exact ⟨zs, p2.trans p, e3⟩
/-- a pair's address, its two ints -/
abbrev P3 := Addr × Int × Int
def leP (x y : P3) : Prop := x.2.1 < y.2.1 ∨ (x.2.1 = y.2.1 ∧ x.2.2 ≤ y.2.2)
def noText : Nat → Bool := fun _ => false
def PairsAt (H : Hp) (ps : List P3) : Prop := ∀ z ∈ ps, H z.1 = some (.tup [.int z.2.1, .int z.2.2])
def rSortedP (K : PySem.W.Frag) : List V → Hp → VK → Prop := fun vs H Q => ∃ (a : Addr) (ps : List P3), vs = [V.ref a] ∧ SqL K H a (ps.map fun z => V.ref z.1) ∧ PairsAt H ps ∧
  ∀ (ps' : List P3) (p : Addr), ps'.Perm ps → ps'.Pairwise leP → H p = none → Q (.ref p) (upd H p (.lst (ps'.map fun z => V.ref z.1)))
theorem vals_refs : ∀ {ps : List P3} {us : List Value}, Vals (ps.map fun z => V.ref z.1) us → us = ps.map fun z => Value.ref z.1
  | [], us, h => by cases h; rfl
  | z :: ps, us, h => by
    cases h with
    | cons r t => cases r; rw [vals_refs t]; rfl
theorem vals_of_refs : ∀ (ps : List P3), Vals (ps.map fun z => V.ref z.1) (ps.map fun z => Value.ref z.1)
  | [] => .nil
  | z :: ps => .cons rfl (vals_of_refs ps)
theorem zip_refs : ∀ ps : List P3, (ps.map fun z => Value.ref z.1).zip (ps.map fun z => Value.ref z.1) = ps.map fun z => ((Value.ref z.1, Value.ref z.1) : Keyed)
  | [] => rfl
  | z :: l => by rw [List.map_cons, List.zip_cons_cons, zip_refs l, List.map_cons]
section
variable {X : Cx}
theorem pair_get {pins : List (Addr × Obj)} {s : Shared} {σ : St} {H : Hp} (I : Inv X pins σ H s) {z : P3} (h : H z.1 = some (.tup [.int z.2.1, .int z.2.2])) :
    ∃ o n t u, s.heap.get? z.1 = some o ∧ o.cls = .type "tuple" ∧ o.data = .seq #[.int z.2.1 t, .int z.2.2 u] n := by
  obtain ⟨_, its, r, o, ho, hc, n, hd⟩ := I.hok z.1 _ h
  obtain ⟨t, u, rfl⟩ := Vals.int2 r
  exact ⟨o, n, t, u, ho, hc, hd⟩
theorem cr_sortedP : CallR X (.builtin "sorted") (rSortedP X.K) := by
  intro pins s σ H vs us Q I r h
  obtain ⟨a, ps, rfl, hs, hp, q⟩ := h
  obtain ⟨its, rv, hl, hz⟩ := I.list hs
  rw [Vals.ref1 r]
  have ei := vals_refs rv
  subst ei
  have hz' : ps.length ≤ sizeLine := by simpa using hz
  have key : ∀ z ∈ ps, G.tupKeyC s.heap noText (.ref z.1) = some [Sum.inl z.2.1, Sum.inl z.2.2] := fun z hzm => by
    obtain ⟨o, n, t, u, ho, hc, hd⟩ := pair_get I (hp z hzm)
    exact G.tupKeyC_of ho hc hd rfl
  have tups : ∀ l : List P3, (∀ z ∈ l, z ∈ ps) → ∃ fs, TupsOf s.heap noText (l.map fun z => Value.ref z.1) fs := by
    intro l
    induction l with
    | nil => intro _; exact ⟨[], .nil⟩
    | cons z l ih =>
      intro hm
      obtain ⟨fs, ht⟩ := ih fun y hy => hm y (List.mem_cons_of_mem _ hy)
      obtain ⟨o, n, t, u, ho, hc, hd⟩ := pair_get I (hp z (hm z List.mem_cons_self))
      exact ⟨_, .cons ⟨z.1, o, _, n, rfl, ho, hc, hd, rfl, fun _ => ⟨_, _, rfl⟩, fun e => absurd e (by decide)⟩ ht⟩
  obtain ⟨fs, ht⟩ := tups ps fun _ h => h
  refine G.sorted_tups hl.isList ht (fun v hv => ?_) (by rw [List.length_map]; exact hz') fun st' h1 h2 _ => ?_
  · obtain ⟨z, hzm, rfl⟩ := List.mem_map.mp hv
    exact ⟨_, key z hzm⟩
  · have h1' := Array.perm_iff_toList_perm.mp h1
    rw [pairsOf_toList] at h1'
    have ez := zip_refs ps
    obtain ⟨ps', hperm, hout⟩ := perm_map_ex h1' ez
    have hsz : (arrOf st').toList.length = ps.length := by rw [hout, List.length_map, hperm.length_eq]
    have hps : (pairsOf (ps.map fun z => Value.ref z.1)).size = ps.length := by rw [pairsOf_size, List.length_map]
    have hkk : ∀ i (hi : i < ps'.length), KK (G.tupKindC s.heap noText) (arrOf st') i = [Sum.inl ps'[i].2.1, Sum.inl ps'[i].2.2] := fun i hi => by
      have e1 : (arrOf st')[i]? = some (Value.ref ps'[i].1, Value.ref ps'[i].1) := by
        rw [← Array.getElem?_toList, hout, List.getElem?_map, List.getElem?_eq_getElem hi]
        rfl
      unfold KK
      rw [e1]
      show ((G.tupKeyC s.heap noText (Value.ref ps'[i].1)).getD []) = _
      rw [key ps'[i] (hperm.mem_iff.mp (List.getElem_mem hi))]
      rfl
    have hpw : ps'.Pairwise leP := by
      refine List.pairwise_iff_getElem.mpr fun i j hi hj hij => ?_
      have hk := h2 i j (Nat.le_of_lt hij) (by rw [hps, ← hperm.length_eq]; exact hj)
      rw [hkk i hi, hkk j hj] at hk
      have hk' : lexLt itemOrd [Sum.inl ps'[j].2.1, Sum.inl ps'[j].2.2] [Sum.inl ps'[i].2.1, Sum.inl ps'[i].2.2] = false := hk
      obtain ⟨a1, a2⟩ := lex_false.mp hk'
      have b1 : ¬ ps'[j].2.1 < ps'[i].2.1 := of_decide_eq_false (show decide (ps'[j].2.1 < ps'[i].2.1) = false from a1)
      rcases a2 with a2 | a2
      · exact .inl (of_decide_eq_true (show decide (ps'[i].2.1 < ps'[j].2.1) = true from a2))
      · have b2 : ¬ ps'[j].2.2 < ps'[i].2.2 := of_decide_eq_false (show decide (ps'[j].2.2 < ps'[i].2.2) = false from (lex_false.mp a2).1)
        unfold leP
        omega
    obtain ⟨ep, he'⟩ := PyProof.Rows.sortedAll_at s.heap (ps.map fun z => Value.ref z.1) ((arrOf st').map (·.2))
    have eout : (arrOf st').map (·.2) = (ps'.map fun z => Value.ref z.1).toArray := by
      apply Array.toList_inj.mp
      rw [Array.toList_map, hout, List.map_map]
      rfl
    rw [eout] at he' ⊢
    have hlen : (ps'.map fun z => V.ref z.1).length ≤ sizeLine := by rw [List.length_map, hperm.length_eq]; exact hz'
    exact ⟨.ref _, upd H (s.heap.objs.size + 1) (.lst (ps'.map fun z => V.ref z.1)), I.laid (t' := s.toks) (fun _ _ => PyProof.Rows.sortedAll_old) (Nat.le_succ _) ⟨hlen, _, ep, vals_of_refs ps', he'⟩, rfl, q ps' _ hperm hpw (I.hok.fresh (Nat.le_succ _))⟩
end
end L2
end
section
set_option Elab.async false
set_option linter.all false
set_option maxRecDepth 100000
set_option maxHeartbeats 4000000
namespace NX
open PySem PySem.Spec PyProof.Rows
section
variable {prog : Program} {w : World} {A : Around} {E : Value → Shared → Prop} {s : Shared}
/-- T(.., k = v): the type's own making, then its init -/
theorem ctype_kw {T newId initId : String} {Bn Bi : Builtin} {args : List Value} {kw : List (Str × Value)} {S : PySem.Spec} {Q R : Value → Shared → Prop} (ft : TypeCalled T newId initId)
    (c1 : checkTypeCall T ⟨args, kw⟩ = pure ()) (c2 : checkBuiltinCall newId ⟨.type T :: args, kw⟩ = pure ()) (e1 : entryFor table newId = some Bn) (e2 : entryFor table initId = some Bi)
    (g : Meets (Bn ⟨.type T :: args, kw⟩) S) (h : S A.in1 (wants R E) s)
    (k : ∀ o s₁, R o s₁ → s₁.TypeIs o T ∧ argsOk initId ⟨o :: args, kw⟩ ∧ ∃ Si, Meets (Bi ⟨o :: args, kw⟩) Si ∧ Si A.in1 (wants (fun r s₂ => r = .none ∧ Q o s₂) E) s₁) :
    wpAny (model prog w) A (call (.type T) args kw) Q E s := by
  obtain ⟨c0, tl0, mro0⟩ := ft.mro
  have f1 := ft.made
  have f2 := ft.sub
  have f3 := ft.notType
  have f4 := ft.canCreate
  refine wpAny_call (codeAny_of_tree ?_)
  show wpAny (model prog w) _ (callAny (.type T) _) _ _ s
  refine wpAny_pure ⟨Code.quiet_builtin _ (by decide +kernel), codeAny_builtin F.entry_type_call ?_⟩
  rw [Around.under_plain (weight_type_call_type T args kw) (units_type_call_type T args kw)]
  repeat any_goals first | assumption | wp_step
  refine codeAny_mono (codeAny_call_builtin ft.plain e1 (wpAny_of_eq c2 (g prog w A.in1 _ s h))) fun r s1 hr => ?_
  match r, hr with
  | .error e, hr => exact hr
  | .ok (.ret o), hr =>
    obtain ⟨t1, t2, Si, gi, t3⟩ := k _ _ hr
    have f5 := ft.init.lookup
    have f6 := ft.init.bind o
    repeat any_goals first | assumption | wp_step
    refine codeAny_mono (codeAny_call_builtin ft.init.plain e2 (ft.init.check _ _ _ _ _ _ _ _ t1 t2 (gi prog w A.in1 _ s1 t3))) fun r2 s2 hr2 => ?_
    match r2, hr2 with
    | .error e, hr2 => exact hr2
    | .ok (.ret v), hr2 =>
      obtain ⟨rfl, hq⟩ := hr2
      repeat any_goals first | assumption | wp_step
    | .ok .next, hr2 => exact hr2.elim
    | .ok .brk, hr2 => exact hr2.elim
    | .ok .cont, hr2 => exact hr2.elim
  | .ok .next, hr => exact hr.elim
  | .ok .brk, hr => exact hr.elim
  | .ok .cont, hr => exact hr.elim
end
abbrev kwS (k : Int) (t : Tok) : List (Str × Value) := [("start", .int k t)]
theorem tc_enum (a : Value) (k : Int) (t : Tok) : checkTypeCall "enumerate" ⟨[a], kwS k t⟩ = pure () := by kernel_rfl
theorem nc_enum (a : Value) (k : Int) (t : Tok) : checkBuiltinCall "enumerate.__new__" ⟨[.type "enumerate", a], kwS k t⟩ = pure () := by kernel_rfl
theorem ok_init (o a : Value) (k : Int) (t : Tok) : argsOk "object.__init__" ⟨[o, a], kwS k t⟩ := by unfold argsOk; kernel_rfl
end NX
end
section
set_option Elab.async false
set_option linter.all false
set_option maxRecDepth 100000
set_option maxHeartbeats 4000000
namespace NX
open PySem PySem.Spec PyProof.Rows
theorem init_kw {T newId : String} {o a : Value} {kw : List (Str × Value)} (hl : typeLookup (.type T) "__init__" = pure (some (.builtin "object.__init__"))) (hm : Bind.madeBy (.type T) = pure (some newId)) (hne : (some newId != some "object.__new__") = true) :
    Meets (Builtin.«object.__init__» ⟨[o, a], kw⟩) (fun _ R s => s.TypeIs o T ∧ R (.ok (.ret .none)) s) := by
  refine Meets.of_wp fun prog w A R s ⟨hT, hq⟩ => ?_
  repeat any_goals first | assumption | wp_step
  exact ⟨_, rfl, hq⟩
theorem enum_new (l : Addr) (items : Array Value) (n : Nat) (dct : Option Addr) (sl : Array (Option Value)) (t : Tok) :
    Meets (Builtin.«enumerate.__new__» ⟨[.type "enumerate", .ref l], kwS 1 t⟩) (fun _ R s => s.heap.get? l = some { cls := .type "list", dict := dct, data := .seq items n, slots := sl } ∧
      R (.ok (.ret (.ref (s.heap.push { cls := .type "list_iterator", data := .fields #[.ref l, .int 0 0] }).objs.size)))
        { s with heap := (s.heap.push { cls := .type "list_iterator", data := .fields #[.ref l, .int 0 0] }).push { cls := .type "enumerate", data := .fields #[.none, .bool false, .ref s.heap.objs.size, rawInt 1, .none, .none] } }) :=
  .of_wp fun prog w A R s h => by
    obtain ⟨hp, g, d, tk, os⟩ := s; obtain ⟨hl, h⟩ := h
    have sub0 := sub_enumerate
    have hL : Heap.IsList (Shared.heap ⟨hp, g, d, tk, os⟩) l items := ⟨_, hl, rfl, n, rfl⟩
    wp_walk using AutoSeq1.wpAny_loadPart' hl
    refine wpAny_stack_any fun st => wpAny_pure ?_
    split
    · rename_i c _ _ _ _ _
      cases (c == Value.type "enumerate")
      · wp_walk using AutoSeq1.wpAny_loadPart' hl, wpAny_pyIter_list hL
        exact ⟨_, rfl, h⟩
      · wp_walk using AutoSeq1.wpAny_loadPart' hl, wpAny_pyIter_list hL
        exact ⟨_, rfl, h⟩
    · wp_walk using AutoSeq1.wpAny_loadPart' hl, wpAny_pyIter_list hL
      exact ⟨_, rfl, h⟩
end NX
end
section
set_option Elab.async false
set_option linter.all false
set_option maxRecDepth 100000
set_option maxHeartbeats 4000000
namespace NX
open PySem PySem.Spec PyProof.Rows
/-- drawn one later -/
theorem shiftD {prog : Program} {w : World} {A : Around} {it : Addr} {fp : List Addr} {n : Nat} {P : Nat → Value → Prop} {St : Nat → Heap → Prop} (D : Draws prog w A it fp n P St) :
    Draws prog w A it fp (n + 1) (fun i v => P (i - 1) v) (fun i h => 1 ≤ i ∧ St (i - 1) h) where
  live := fun i h st => D.live _ h st.2
  frame := fun i h h' st k => ⟨st.1, D.frame _ h h' st.2 k⟩
  item := fun i s Q E hi st hQ => D.item (i - 1) s Q E (by have := st.1; omega) st.2 fun x h' tk p q r => hQ x h' tk p ⟨by omega, by have := st.1; rw [show i + 1 - 1 = i - 1 + 1 by omega]; exact q⟩ r
  done := fun s Q E st hE => D.done s Q E st.2 hE
section
variable {prog : Program} {w : World} {A : Around} {E : Value → Shared → Prop} {s : Shared}
theorem call_enum1 {l : Addr} {items : Array Value} {t : Tok} {Q : Value → Shared → Prop} (hL : s.heap.IsList l items)
    (h : ∀ h', IsEnum h' (s.heap.objs.size + 1) s.heap.objs.size 1 .none → h'.IsListIter s.heap.objs.size l 0 → (∀ b o, s.heap.get? b = some o → h'.get? b = some o) → Q (.ref (s.heap.objs.size + 1)) { s with heap := h' }) :
    wpAny (model prog w) A (call (.type "enumerate") [.ref l] (kwS 1 t)) Q E s := by
  obtain ⟨⟨c, dct, dt, sl⟩, hl, hc, n, hd⟩ := hL
  replace hc : c = .type "list" := hc
  replace hd : dt = .seq items n := hd
  subst hc hd
  refine ctype_kw (R := fun o s₁ => s₁.TypeIs o "enumerate" ∧ Q o s₁) F.called_enumerate (tc_enum _ 1 t) (nc_enum _ 1 t) F.entry_enumerate_new F.entry_object_init (enum_new l items n dct sl t) ⟨hl, ?_⟩
    fun o s₁ hq => ⟨hq.1, ok_init o _ 1 t, _, init_kw F.called_enumerate.init.lookup F.called_enumerate.made (by decide), hq.1, rfl, hq.2⟩
  have hz : (s.heap.push { cls := .type "list_iterator", data := .fields #[.ref l, .int 0 0] }).objs.size = s.heap.objs.size + 1 := Heap.size_push ..
  show _ ∧ _
  rw [hz]
  have he : IsEnum ((s.heap.push { cls := .type "list_iterator", data := .fields #[.ref l, .int 0 0] }).push { cls := .type "enumerate", data := .fields #[.none, .bool false, .ref s.heap.objs.size, rawInt 1, .none, .none] }) (s.heap.objs.size + 1) s.heap.objs.size 1 .none := by
    have q := Heap.get?_push_size (s.heap.push { cls := .type "list_iterator", data := .fields #[.ref l, .int 0 0] }) (o := { cls := .type "enumerate", data := .fields #[.none, .bool false, .ref s.heap.objs.size, rawInt 1, .none, .none] }) rfl
    rw [hz] at q
    exact q
  exact ⟨⟨_, he, rfl⟩, h _ he ⟨_, Heap.get?_push_of_some _ (Heap.get?_push_size _ rfl), rfl, rfl⟩ fun b o x => Heap.get?_push_of_some _ (Heap.get?_push_of_some _ x)⟩
end
theorem cw_type {M : Model} {env : Env} {pos : Pos} {T : String} {e : Expr} {kws : List Keyword} {Q : Value → Shared → Prop} {s : Shared} {A : Around} {E : Value → Shared → Prop}
    (h : wpAny M A (spliced (backTo pos (starEach [e] env))) (fun vs s₁ => wpAny M A (evalAll ((backToKw pos (keywordEach kws env)).map (·.2))) (fun ks s₂ => wpAny M A (call (.type T) vs (((backToKw pos (keywordEach kws env)).filterMap (·.1)).zip ks)) Q E s₂) E s₁) E s)
    (hs : starEach [e] env = [(false, eval e env)]) (hall : (backToKw pos (keywordEach kws env)).all (·.1.isSome) = true := by rfl) (hkw : (backToKw pos (keywordEach kws env)).any (·.1.isNone) = false := by rfl) :
    wpAny M A (callWith pos (.type T) [] (backTo pos (starEach [e] env)) (backToKw pos (keywordEach kws env))) Q E s := by
  have hb : backTo pos [(false, eval e env)] = [(false, eval e env)] := rfl
  have hc : ([(false, eval e env)] : List (Bool × Sem Value)).any (·.1) = false := rfl
  rw [hs, hb] at h ⊢
  unfold callWith
  refine wpAny_bind (wpAny_holding (wpAny_mono (evalArgs_kwB (f := .type T) (Q := fun ar s₂ => wpAny M A (call (.type T) ar.pos ar.kw) Q E s₂) hall h) (fun ar s1 h1 => wpAny_bind (wpAny_standAt ?_)) fun _ _ z => z))
  simp only [hc, hkw, Bool.or_false]
  refine wpAny_bind (wpAny_pure ?_)
  exact wpAny_bind (wpAny_mono h1 (fun r s2 hr => wpAny_bind (wpAny_holding (wpAny_point (wpAny_pure hr)))) fun _ _ z => z)
end NX
namespace L2
open PySem PySem.Spec PyProof.Rows NX
/-- the list at a as it stands at each turn, each item in a new pair behind its place, from 1 on -/
def Ite1 (K : PySem.W.Frag) (a : Addr) : It :=
  ⟨fun i H => ∃ (xs : List V) (x : V), SqL K H a xs ∧ xs[i]? = some x, fun i H v H' => ∃ T x, v = .ref T ∧ H T = none ∧ H' = upd H T (.tup [.int ((i + 1 : Nat) : Int), x]) ∧ ∀ xs, SqL K H a xs → xs[i]? = some x, fun i H => ∃ xs : List V, SqL K H a xs ∧ xs.length ≤ i⟩
theorem turn_enum1 {P : Program} {w : World} {K : PySem.W.Frag} {elts : List Expr} {kk : Nat} {tpos : Pos} (a e it : Addr) :
    Turn P w K (.Tuple elts kk tpos) (Ite1 K a) [e, it] e (fun i h => (∃ old, IsEnum h e it ((i + 1 : Nat) : Int) old) ∧ h.IsListIter it a i ∧ e ≠ it ∧ a ≠ it ∧ a ≠ e) where
  mem := by simp
  obj := fun i h st b hb => by
    obtain ⟨⟨old, he⟩, ⟨o, ho, hc, hd⟩, _⟩ := st
    rcases (by simpa using hb : b = e ∨ b = it) with z | z
    · rw [z]; exact ⟨_, he, fun v q => nomatch q⟩
    · rw [z]; exact ⟨o, ho, fun v q => by rw [hd] at q; cases q⟩
  keep := fun i h h' st k => let ⟨⟨old, he⟩, hi, hne⟩ := st; ⟨⟨old, k e (by simp) _ he⟩, hi.at fun o q => k it (by simp) o q, hne⟩
  item := by
    intro X hP hw hK hc i pins s σ H E I hf st hg
    subst hP hw hK
    obtain ⟨⟨old, he⟩, hit, hne, hne2, hne3⟩ := st
    obtain ⟨xs, x, hq, hx⟩ := hg
    obtain ⟨its, rv, p, hz⟩ := I.list hq
    obtain ⟨u, hu, ru⟩ := rv.get hx
    have hel : e < s.heap.objs.size := Heap.lt_size he
    have hil : it < s.heap.objs.size := by obtain ⟨_, q, _⟩ := hit; exact Heap.lt_size q
    have hlt : i < its.toArray.size := by
      have := (List.getElem?_eq_some_iff.mp hu).1
      rw [List.size_toArray]; exact this
    have D := shiftD (Draws.list (prog := X.prog) (w := X.w) (A := X.A.in1) (I.ok.hd hc) it a hne2 its.toArray)
    refine wpAny_pyNext_enum_itemD (i := i + 1) D he ⟨by omega, by rw [Nat.add_sub_cancel]; exact ⟨hit, p.isList⟩⟩ (by omega) hne (by simp [hne, Ne.symm hne3]) fun v h' tk hv ho hst' hT hsz hk => ?_
    have ev : v = u := by
      have hv : its.toArray[i]? = some v := by simpa using hv
      have hu' : its.toArray[i]? = some u := by simpa using hu
      exact Option.some.inj (hv.symm.trans hu')
    subst ev
    have hit' : h'.IsListIter it a (i + 1) := by
      have q := hst'.2.1
      rw [Nat.add_sub_cancel] at q
      exact q
    refine ⟨_, rfl, wpAny_letOwnedTupleGo_enum (s := { s with heap := h', toks := tk + 1 }) ho fun h'' he' sb => ?_⟩
    have hT2 : h''.get? s.heap.objs.size = some { cls := .type "tuple", data := .seq #[.int ((i + 1 : Nat) : Int) tk, v] } := (sb.2 _ (Nat.ne_of_gt hel)).trans hT
    have new : ObjOk X.prog X.w (upd H s.heap.objs.size (.tup [.int ((i + 1 : Nat) : Int), x])) h'' s.heap.objs.size (.tup [.int ((i + 1 : Nat) : Int), x]) :=
      ⟨by show 2 ≤ sizeLine; decide, [.int ((i + 1 : Nat) : Int) tk, v], .cons ⟨_, rfl⟩ (.cons ru .nil), ⟨_, hT2, rfl, _, rfl⟩⟩
    have I1 : Inv X pins σ (upd H s.heap.objs.size (.tup [.int ((i + 1 : Nat) : Int), x])) { s with heap := h'', toks := tk + 1 } :=
      I.turnedNew (ch := [e, it]) (fun b ob hb q => (sb.2 b (fun z => hb (by simp [z]))).trans (hk b ob (fun z => hb (by simp [z])) (fun z => hb (by simp [z])) q)) hf (Nat.le_refl _) new
    refine ⟨.ref s.heap.objs.size, _, I1, rfl, ⟨_, x, rfl, I.hok.fresh (Nat.le_refl _), rfl, fun ys hy => by rw [I.list_inj hy hq]; exact hx⟩, ⟨⟨v, ?_⟩, hit'.at fun o q => (sb.2 it (Ne.symm hne)).trans q, hne, hne2, hne3⟩, fun b hb => ?_⟩
    · rw [show ((i + 1 + 1 : Nat) : Int) = ((i + 1 : Nat) : Int) + 1 by omega]
      exact he'
    · have hb' : b < s.heap.objs.size := by
        rcases (by simpa using hb : b = e ∨ b = it) with z | z
        · rw [z]; exact hel
        · rw [z]; exact hil
      rw [upd_ne (Nat.ne_of_lt hb')]
      exact (hf b hb).1
  done := by
    intro X hP hw hK hc i pins s σ H E I hf st hg
    subst hP hw hK
    obtain ⟨⟨old, he⟩, hit, hne, hne2, hne3⟩ := st
    obtain ⟨xs, hq, hx⟩ := hg
    obtain ⟨its, rv, p, hz⟩ := I.list hq
    obtain ⟨f0, f1, f2, f3, f4, f5⟩ := hf it (by simp)
    have hl := rv.length
    have hT : s.TypeIs (.ref e) "enumerate" := ⟨_, he, rfl⟩
    unfold pyNext
    refine wpAny_bind (wpAny_attempt (wpAny_callSpecial?_slot (name := Str.ofString "__next__") hT F.slot_enumerate_next (wpAny_call_entry F.slot_enumerate_next hT F.entry_enumerate_next ?_ (F.args_enumerate_next_1 _))))
    show wpAny (model X.prog X.w) _ (field (.ref e) 2 >>= _) _ _ s
    refine wpAny_bind (wpAny_field he rfl (x := .ref it) rfl ?_)
    refine wpAny_bind (wpAny_nextOf_list_end (I.ok.hd hc) hit p.isList (by simp; omega) fun h' y eb ⟨o, ho, hcl⟩ => ?_)
    refine wpAny_bind (wpAny_isInstance (T := "StopIteration") (b := true) ⟨o, ho, hcl⟩ isSubtype_stop ?_)
    exact wpAny_pure ⟨rfl, I.turned (t' := s.toks) (fun b o hb q => eb b o hb q) f0 f1 f3 f4 f5⟩
  self := fun A i s Q E st h => let ⟨⟨_, he⟩, _⟩ := st; wpAny_pyIter_enum he h
def iEnum1 (K : PySem.W.Frag) (ta : TA) : TI := fun σ H R => ta σ H fun vs H1 => ∃ a xs, vs = [.ref a] ∧ SqL K H1 a xs ∧ R (Ite1 K a) H1
/-- enumerate(e, start=1) -/
theorem pi_enum1 {X : Cx} {e : Expr} {ta : TA} {p pos tpos kpos cpos : Pos} {elts : List Expr} {kk j : Nat} (hg : Gl X "enumerate") (hm : X.mg "enumerate" = none) (ha : PA X [e] ta) (hs : starEach [e] X.env = [(false, eval e X.env)] := by rfl) :
    PI X (.Tuple elts kk tpos) (.Call (.Name "enumerate" p) [e] [⟨some "start", .Constant (.int 1) j cpos, kpos⟩] pos) (iEnum1 X.K ta) := by
  intro pins s σ H R I h
  refine wpAny_Call_Name_kw (ld_blt I hg hm boot_enumerate ?_)
  refine cw_type (thn (ha pos pins s σ H _ I h) fun us s1 ⟨vs, H1, I1, r1, q1⟩ => ?_) hs
  obtain ⟨a, xs, ex, hq, q⟩ := q1
  subst ex
  rw [Vals.ref1 r1]
  refine kws_cons (wpAny_Constant_int (kws_nil ?_))
  have I1' : Inv X pins σ H1 { s1 with toks := s1.toks + 1 } := I1.tok _
  obtain ⟨its, rv, p', hz⟩ := I1'.list hq
  have hL := p'.isList
  have hal : a < s1.heap.objs.size := by
    obtain ⟨_, z, _⟩ := hL
    exact Heap.lt_size z
  refine call_enum1 (s := { s1 with toks := s1.toks + 1 }) hL fun h' he hit hk => wpAny_pyIter_enum he ?_
  have I2 : Inv X pins σ H1 { s1 with heap := h', toks := s1.toks + 1 } := I1.kept hk
  refine ⟨s1.heap.objs.size + 1, [s1.heap.objs.size + 1, s1.heap.objs.size], _, _, H1, rfl, I2, turn_enum1 a (s1.heap.objs.size + 1) s1.heap.objs.size,
    ⟨⟨.none, he⟩, hit, Nat.succ_ne_self _, Nat.ne_of_lt hal, Nat.ne_of_lt (Nat.lt_succ_of_lt hal)⟩, fun b hb => ?_, q⟩
  have hle : s1.heap.objs.size ≤ b := by
    rcases (by simpa using hb : b = s1.heap.objs.size + 1 ∨ b = s1.heap.objs.size) with z | z
    · rw [z]; exact Nat.le_add_right _ _
    · rw [z]; exact Nat.le_refl _
  exact I1.fpOk hle (I1.hok.fresh hle)
end L2
end
section
set_option Elab.async false
set_option linter.all false
set_option maxRecDepth 100000
set_option maxHeartbeats 4000000
namespace L2
open PySem PySem.Spec PyProof.Rows NX
theorem dedup_len : ∀ (ns σ : List Int), σ.Nodup → (ns.foldl step_dedup σ).length ≤ σ.length + ns.length ∧ ((ns.foldl step_dedup σ).length = σ.length + ns.length ↔ (σ ++ ns).Nodup)
  | [], σ, h => by
    rw [List.append_nil]
    exact ⟨Nat.le_refl _, fun _ => h, fun _ => rfl⟩
  | v :: ns, σ, h => by
    rw [List.foldl_cons]
    by_cases e : v ∈ σ
    · have es : step_dedup σ v = σ := by
        unfold step_dedup
        rw [if_pos (show (σ.any fun x => x == v) = true from List.any_eq_true.mpr ⟨v, e, beq_self_eq_true v⟩)]
      rw [es]
      obtain ⟨h1, h2⟩ := dedup_len ns σ h
      refine ⟨by rw [List.length_cons]; omega, fun z => by rw [List.length_cons] at z; omega, fun z => ?_⟩
      exact absurd rfl ((List.nodup_append.mp z).2.2 v e v List.mem_cons_self)
    · have es : step_dedup σ v = σ ++ [v] := by
        unfold step_dedup
        rw [if_neg fun z => ?_]
        obtain ⟨y, hy, q⟩ := List.any_eq_true.mp z
        exact e (eq_of_beq q ▸ hy)
      rw [es]
      have nd : (σ ++ [v]).Nodup := List.nodup_append.mpr ⟨h, by simp, fun a ha b hb q => by rw [List.mem_singleton.mp hb] at q; exact e (q ▸ ha)⟩
      obtain ⟨h1, h2⟩ := dedup_len ns (σ ++ [v]) nd
      rw [List.length_append, List.length_singleton] at h1 h2
      rw [List.append_assoc, List.singleton_append] at h2
      rw [List.length_cons, show σ.length + (ns.length + 1) = σ.length + 1 + ns.length by omega]
      exact ⟨h1, h2⟩
theorem range_getD (ns : List Int) : (List.range ns.length).map (fun i => ns.getD i 0) = ns := by
  refine List.ext_getElem? fun i => ?_
  rw [List.getElem?_map]
  by_cases h : i < ns.length
  · rw [List.getElem?_range h, List.getElem?_eq_getElem h]
    show some (ns.getD i 0) = _
    rw [List.getD_eq_getElem?_getD, List.getElem?_eq_getElem h]
    rfl
  · rw [List.getElem?_eq_none (by rw [List.length_range]; omega), List.getElem?_eq_none (by omega)]
    rfl
theorem met_len (ns : List Int) : (firstMet (fun i => ns.getD i 0) ns.length).length ≤ ns.length ∧ ((firstMet (fun i => ns.getD i 0) ns.length).length = ns.length ↔ ns.Nodup) := by
  unfold firstMet
  rw [range_getD]
  have := dedup_len ns [] List.nodup_nil
  simpa using this
section
variable {X : Cx}
/-- set(xs) of a list of ints: how many it has -/
def rSetOf (K : PySem.W.Frag) : List V → Hp → VK → Prop := fun vs H Q => ∃ (a : Addr) (ns : List Int), vs = [V.ref a] ∧ SqL K H a (ns.map V.int) ∧ ns.length ≤ 1000 ∧
  ∀ (p : Addr) (S : Int → Bool) (n : Nat), H p = none → n ≤ ns.length → (n = ns.length ↔ ns.Nodup) → Q (.ref p) (upd H p (.set S n))
theorem cr_setOf (hc : X.calm = true) : CallR X (.type "set") (rSetOf X.K) := by
  intro pins s σ H vs us Q I r h
  obtain ⟨a, ns, rfl, hs, hn, q⟩ := h
  obtain ⟨its, rv, hl, _⟩ := I.list hs
  rw [Vals.ref1 r]
  have hi := rv.ints
  have hlen : its.length = ns.length := hi.length
  refine PySem.call_set_list (ns := ns) (I.ok.hd hc) hl.isList (by simpa using hi) (by rw [List.size_toArray, hlen]; unfold scanBound; omega) fun h' tk hS hk => ?_
  have esz : its.toArray.size = ns.length := by rw [List.size_toArray, hlen]
  rw [esz] at hS
  obtain ⟨m1, m2⟩ := met_len ns
  exact ⟨.ref _, _, I.laid (o := .set (fun k' => (firstMet (fun i => ns.getD i 0) ns.length).any fun x => x == k') (firstMet (fun i => ns.getD i 0) ns.length).length) (fun b o e => hk b o (Heap.lt_size e) e) (Nat.le_refl _) hS, rfl, q _ _ _ (I.hok.fresh (Nat.le_refl _)) m1 m2⟩
/-- len of such a set -/
theorem cr_lenSet : CallR X (.builtin "len") (fun vs H Q => ∃ (a : Addr) (S : Int → Bool) (n : Nat), vs = [V.ref a] ∧ H a = some (.set S n) ∧ Q (.int n) H) := by
  intro pins s σ H vs us Q I r h
  obtain ⟨a, S, n, rfl, hs, q⟩ := h
  rw [Vals.ref1 r]
  obtain ⟨o, es, ep, t, h1, h2, h3, _, _, h6, h7, rfl⟩ := I.hok a _ hs
  refine PySem.call_len_set h1 h2 h3 h7 (by unfold scanBound at h6; omega) ⟨.int _, H, ?_, ⟨_, rfl⟩, q⟩
  exact I.tok _
end
end L2
end
section
set_option Elab.async false
set_option linter.all false
set_option maxRecDepth 100000
set_option maxHeartbeats 4000000
namespace NX
open PySem PySem.Spec PyProof.Rows
abbrev kwD (d : Value) : List (Str × Value) := [(Str.ofString "default", d)]
theorem ok_minD (a d : Value) : argsOk "min" ⟨[a], kwD d⟩ := by unfold argsOk; kernel_rfl
theorem nm_min : (toString "min" ++ toString ".loop" : String) = "min.loop" := by decide
section
variable {prog : Program} {w : World} {A : Around} {R : Result → Shared → Prop} {it : Addr} {fp wr : List Addr} {n : Nat} {P : Nat → Value → Prop} {St : Nat → Heap → Prop}
/-- the loop of min(.., default=d), one item behind it -/
theorem min_go (W : Walks prog w A.in1 it fp wr n P St) (bt : Nat → Nat → Bool) (cmp : CmpOf prog w A.in1 .Lt P bt) (S : Addr) (hSf : S ∉ fp) (d : Value) :
    ∀ (k j : Nat) (s : Shared) (vb : Value) (c : Nat), n - (j + 1) = k → j + 1 ≤ n → St (j + 1) s.heap → P (argBest bt j) vb → s.heap.get? S = some { cls := .type "list", dict := none, data := .seq #[vb, vb] c, slots := #[] } →
    (∀ v h' tk, P (argBest bt (n - 1)) v → (∀ b o, b ∉ wr → b ≠ S → s.heap.get? b = some o → h'.get? b = some o) → R (.ok (.ret v)) { s with heap := h', toks := tk }) →
    codeAny (model prog w) A (.builtin "min.loop" ⟨[.ref it, .none, .ref S], kwD d⟩) R s := by
  have nSw : S ∉ wr := fun z => hSf (W.sub _ z)
  intro k
  induction k with
  | zero =>
    intro j s vb c hk hj hst hP hS fin
    have e : j + 1 = n := by omega
    refine codeAny_builtin F.entry_min_loop ?_
    rw [Around.under_plainId F.plain_min_loop _]
    show wpAny (model prog w) A.in1 (seqItems? (.ref S) >>= _) _ _ s
    refine wpAny_bind (wpAny_seqItems hS rfl ?_)
    show wpAny (model prog w) A.in1 (tryCatch (pyNext (.ref it)) _ >>= _) _ _ s
    refine wpAny_bind (wpAny_tryCatch (W.done s _ _ (e ▸ hst) fun h1 tk k1 => ?_))
    have hS1 := k1 S _ nSw hS
    show wpAny (model prog w) A.in1 (updateSeq S (fun _ => #[]) >>= _) _ _ _
    refine wpAny_bind (wpAny_updateSeq hS1 rfl (wpAny_bind (wpAny_letGo (wpAny_pure ?_))))
    refine fin vb _ tk (by rw [← e]; exact hP) fun b o b1 b2 q => (Heap.get?_update_other _ _ (Ne.symm b2)).trans (k1 b o b1 q)
  | succ k ih =>
    intro j s vb c hk hj hst hP hS fin
    have lt : j + 1 < n := by omega
    refine codeAny_builtin F.entry_min_loop ?_
    rw [Around.under_plainId F.plain_min_loop _]
    show wpAny (model prog w) A.in1 (seqItems? (.ref S) >>= _) _ _ s
    refine wpAny_bind (wpAny_seqItems hS rfl ?_)
    show wpAny (model prog w) A.in1 (tryCatch (pyNext (.ref it)) _ >>= _) _ _ s
    refine wpAny_bind (wpAny_tryCatch (W.item (j + 1) s _ _ lt hst fun v h1 tk hv st1 k1 => ?_))
    have hS1 := k1 S _ nSw hS
    show wpAny (model prog w) A.in1 (tryCatch (holding [v, v] (richCompare .Lt v vb >>= _)) _ >>= _) _ _ _
    refine wpAny_bind (wpAny_tryCatch (wpAny_holding (wpAny_bind (cmp (j + 1) (argBest bt j) v vb _ _ _ hv hP ?_))))
    refine wpAny_bind (wpAny_holding (wpAny_truthy_bool (wpAny_bind (wpAny_letGo (wpAny_pure ?_)))))
    by_cases hb : bt (j + 1) (argBest bt j) = true
    · simp only [hb, if_true]
      refine wpAny_bind (wpAny_updateSeq hS1 rfl (wpAny_bind (wpAny_letGo ?_)))
      rw [nm_min]
      refine wpAny_pure ⟨plainId_quiet F.plain_min_loop _, ih (j + 1) _ v _ (by omega) lt (W.frame _ _ _ st1 fun b b1 o q => ?_) (by simp only [argBest, hb, if_true]; exact hv) (Heap.get?_update_self _ hS1 rfl) fun v2 h2 tk2 hv2 k2 => ?_⟩
      · exact (Heap.get?_update_other _ _ (fun z : S = b => hSf (by rw [z]; exact b1))).trans q
      · exact fin v2 h2 tk2 hv2 fun b o b1 b2 q => k2 b o b1 b2 ((Heap.get?_update_other _ _ (Ne.symm b2)).trans (k1 b o b1 q))
    · have hb : bt (j + 1) (argBest bt j) = false := Bool.eq_false_iff.mpr hb
      simp only [hb, Bool.false_eq_true, if_false]
      refine wpAny_bind (wpAny_letGo ?_)
      rw [nm_min]
      refine wpAny_pure ⟨plainId_quiet F.plain_min_loop _, ih (j + 1) _ vb c (by omega) lt st1 (by simp only [argBest, hb, Bool.false_eq_true, if_false]; exact hP) hS1 fun v2 h2 tk2 hv2 k2 => ?_⟩
      exact fin v2 h2 tk2 hv2 fun b o b1 b2 q => k2 b o b1 b2 (k1 b o b1 q)
end
section
variable {prog : Program} {w : World} {A : Around} {E : Value → Shared → Prop} {s : Shared}
theorem min_dflt {l : Addr} {items : Array Value} {d : Value} {bt : Nat → Nat → Bool} {Q : Value → Shared → Prop} (hh : A.handled = none) (hl : s.heap.IsList l items) (cmp : CmpOf prog w A.in1 .Lt (fun i v => items[i]? = some v) bt)
    (h0 : ∀ h' tk, items.size = 0 → (∀ b o, s.heap.get? b = some o → h'.get? b = some o) → Q d { s with heap := h', toks := tk })
    (h1 : ∀ v h' tk, 0 < items.size → items[argBest bt (items.size - 1)]? = some v → (∀ b o, s.heap.get? b = some o → h'.get? b = some o) → Q v { s with heap := h', toks := tk }) :
    wpAny (model prog w) A (call (.builtin "min") [.ref l] (kwD d)) Q E s := by
  refine PyProof.Rows.kmk_tree F.kind_min F.plain_min F.entry_min (ok_minD _ d) ?_
  show wpAny (model prog w) A.in1 (Builtin.Builtins.bindParams "min" ["key", "default"] 0 ⟨[], kwD d⟩ >>= _) _ _ s
  refine wpAny_bind (wpAny_of_eq (show Builtin.Builtins.bindParams "min" ["key", "default"] 0 ⟨[], kwD d⟩ = pure [none, some d] from rfl) ?_)
  refine wpAny_bind (wpAny_pure ?_)
  have hll : l < s.heap.objs.size := by
    obtain ⟨_, z, _⟩ := hl
    exact Heap.lt_size z
  refine wpAny_bind (wpAny_pyIter_list hl (wpAny_bind (wpAny_newObj_type ?_)))
  rw [nm_min]
  generalize hg1 : s.heap.push { cls := .type "list_iterator", data := .fields #[.ref l, .int 0 0] } = g1
  have z1 : g1.objs.size = s.heap.objs.size + 1 := by rw [← hg1]; exact Heap.size_push ..
  have k1 : ∀ b o, s.heap.get? b = some o → g1.get? b = some o := fun b o q => by rw [← hg1]; exact Heap.get?_push_of_some _ q
  have i1 : g1.get? s.heap.objs.size = some { cls := .type "list_iterator", data := .fields #[.ref l, .int 0 0] } := by rw [← hg1]; exact Heap.get?_push_size _ rfl
  have W := Walks.list (prog := prog) (w := w) (A := A.in1) hh s.heap.objs.size l (Nat.ne_of_lt hll) items
  have hSf : g1.objs.size ∉ [s.heap.objs.size, l] := by
    rw [z1]
    simp only [List.mem_cons, List.not_mem_nil, or_false, not_or]
    exact ⟨Nat.succ_ne_self _, Nat.ne_of_gt (Nat.lt_succ_of_lt hll)⟩
  have nSw : g1.objs.size ∉ [s.heap.objs.size] := fun z => hSf (W.sub _ z)
  have hS : (g1.push { cls := .type "list", data := .seq #[] }).get? g1.objs.size = some { cls := .type "list", dict := none, data := .seq #[] 0, slots := #[] } := Heap.get?_push_size _ rfl
  have k2 : ∀ b o, s.heap.get? b = some o → (g1.push { cls := .type "list", data := .seq #[] }).get? b = some o := fun b o q => Heap.get?_push_of_some _ (k1 b o q)
  have st0 : (g1.push { cls := .type "list", data := .seq #[] }).IsListIter s.heap.objs.size l 0 ∧ (g1.push { cls := .type "list", data := .seq #[] }).IsList l items := ⟨⟨_, Heap.get?_push_of_some _ i1, rfl, rfl⟩, hl.at fun o q => k2 l o q⟩
  refine wpAny_pure ⟨plainId_quiet F.plain_min_loop _, ?_⟩
  refine codeAny_builtin F.entry_min_loop ?_
  rw [Around.under_plainId F.plain_min_loop _]
  show wpAny (model prog w) A.in1 (seqItems? (.ref g1.objs.size) >>= _) _ _ _
  refine wpAny_bind (wpAny_seqItems hS rfl ?_)
  show wpAny (model prog w) A.in1 (tryCatch (pyNext (.ref s.heap.objs.size)) _ >>= _) _ _ _
  have old : ∀ b o, s.heap.get? b = some o → b ∉ [s.heap.objs.size] ∧ b ≠ g1.objs.size := fun b o q => by
    have lt : b < s.heap.objs.size := Heap.lt_size q
    rw [z1]
    exact ⟨fun z => Nat.ne_of_lt lt (List.mem_singleton.mp z), Nat.ne_of_lt (Nat.lt_succ_of_lt lt)⟩
  by_cases hn : 0 < items.size
  · refine wpAny_bind (wpAny_tryCatch (W.item 0 _ _ _ hn st0 fun v h3 tk hv st3 k3 => ?_))
    have hS3 := k3 _ _ nSw hS
    show wpAny (model prog w) A.in1 (updateSeq g1.objs.size (fun _ => #[v, v]) >>= _) _ _ _
    refine wpAny_bind (wpAny_updateSeq hS3 rfl ?_)
    rw [nm_min]
    refine wpAny_pure ⟨plainId_quiet F.plain_min_loop _, min_go W bt cmp g1.objs.size hSf d _ 0 _ v _ rfl hn (W.frame _ _ _ st3 fun b b1 o q => ?_) hv (Heap.get?_update_self _ hS3 rfl) fun v4 h4 tk4 hv4 k4 => ?_⟩
    · exact (Heap.get?_update_other _ _ (fun z : g1.objs.size = b => hSf (by rw [z]; exact b1))).trans q
    · refine h1 v4 h4 tk4 hn hv4 fun b o q => ?_
      obtain ⟨o1, o2⟩ := old b o q
      exact k4 b o o1 o2 ((Heap.get?_update_other _ _ (Ne.symm o2)).trans (k3 b o o1 (k2 b o q)))
  · have e0 : items.size = 0 := by omega
    refine wpAny_bind (wpAny_tryCatch (W.done _ _ _ (by rw [e0]; exact st0) fun h3 tk k3 => ?_))
    refine wpAny_bind (wpAny_rule (wpAny_pure ?_))
    exact h0 h3 tk e0 fun b o q => k3 b o (old b o q).1 (k2 b o q)
end
end NX
namespace L2
open PySem PySem.Spec PyProof.Rows NX
section
variable {X : Cx}
/-- min(xs, default=d), of ints -/
def tMinD (K : PySem.W.Frag) (t td : TE) : TE := fun σ H Q => t σ H fun x H1 => td σ H1 fun y H2 => ∃ (a : Addr) (ns : List Int) (d : Int), x = .ref a ∧ y = .int d ∧ SqL K H2 a (ns.map V.int) ∧
  (ns = [] → Q (.int d) H2) ∧ ∀ m, m ∈ ns → (∀ z ∈ ns, m ≤ z) → Q (.int m) H2
theorem pe_minD {e ed : Expr} {p pos kpos : Pos} {t td : TE} (hc : X.calm = true) (hg : Gl X "min") (hm : X.mg "min" = none) (he : PE X e t) (hd : PE X ed td) (hs : starEach [e] X.env = [(false, eval e X.env)] := by rfl) :
    PE X (.Call (.Name "min" p) [e] [⟨some "default", ed, kpos⟩] pos) (tMinD X.K t td) := by
  intro pins s σ H Q I h
  refine wpAny_Call_Name_kw (ld_blt I hg hm (show bootBuiltins "min" = some (.builtin "min") by decide +kernel) ?_)
  refine callWith_kw ?_ (by rw [hs]; rfl) (by rw [hs]; rfl)
  rw [hs]
  show wpAny _ _ (spliced [(false, eval e X.env)]) _ _ s
  refine Calls.spliced_cons (thn (he pins s σ H _ I h) fun u s1 ⟨x, H1, I1, r1, q1⟩ => Calls.spliced_nil ?_)
  refine kws_cons (thn (hd pins s1 σ H1 _ I1 q1) fun y s2 ⟨yv, H2, I2, r2, q2⟩ => kws_nil ?_)
  obtain ⟨a, ns, d, rfl, rfl, hl, q0, qm⟩ := q2
  cases r1
  obtain ⟨tk, rfl⟩ := r2
  obtain ⟨its, rv, pl, hz⟩ := I2.list hl
  have hi := rv.ints
  have hlen := hi.length
  have at_ : ∀ i v, its.toArray[i]? = some v → ∃ t, v = Value.int (ns.getD i 0) t := fun i v hv => IntsAre.int_at hi i v (by simpa using hv)
  refine min_dflt (bt := fun i j => decide (ns.getD i 0 < ns.getD j 0)) (I2.ok.hd hc) pl.isList (CmpOf.ints_lt (fun i => ns.getD i 0) at_) (fun h' tk' e0 k => ?_) fun v h' tk' hp hv k => ?_
  · have en : ns = [] := List.eq_nil_of_length_eq_zero (by rw [← hlen]; simpa using e0)
    exact ⟨.int d, H2, I2.kept k, ⟨_, rfl⟩, q0 en⟩
  · obtain ⟨t', rfl⟩ := at_ _ _ hv
    have hp' : 0 < ns.length := by rw [← hlen]; simpa using hp
    have esz : its.toArray.size = ns.length := by rw [List.size_toArray, hlen]
    obtain ⟨b1, b2⟩ := argBest_lt (fun i => ns.getD i 0) (its.toArray.size - 1)
    refine ⟨.int _, H2, I2.kept k, ⟨_, rfl⟩, qm _ ?_ fun z hz => ?_⟩
    · exact PySem.getD_mem (by rw [← esz]; omega)
    · obtain ⟨jj, hj, rfl⟩ := mem_getD hz
      exact b2 jj (by omega)
end
end L2
end
section
set_option Elab.async false
set_option linter.all false
set_option maxRecDepth 100000
set_option maxHeartbeats 4000000
namespace L2
open PySem PySem.Spec PyProof.Rows NX
section
variable {X : Cx}
/-- f(e, ..), f a name of the def's own that holds a def of the text -/
def tCallV (X : Cx) (i : Nat) (t : TA) : TE := fun σ H Q => ∃ (f : Addr) (fd : FuncData) (ps : List Str) (k : Nat) (sp : Sp), σ[i]? = some (some (.ref f)) ∧ FnOk X.prog X.w X.K X.mg X.base CX0 k f fd ps sp ∧ Room k X.A ∧ PySem.W.keepIn X.K (.ref f) = true ∧ Binds X.K fd ps [] ∧ t σ H fun vs H1 => sp vs H1 Q E0
theorem pe_callV (i : Nat) {x : Str} {p pos : Pos} {e : Expr} {es : List Expr} {t : TA} (ha : PA X (e :: es) t) (hN : X.N[i]? = some x := by rfl) (hv : Vis X.env.scope x := by first | exact Or.inl rfl | exact Or.inr (Or.inl rfl) | exact Or.inr (Or.inr rfl))
    (hd : (x == ("__debug__" : Str)) = false := by decide) (hcd : (x == ("__classdict__" : Str)) = false := by decide)
    (he : starEach (e :: es) X.env = (false, eval e X.env) :: starEach es X.env := by rfl) (hpl : (backTo pos (starEach es X.env)).any (·.1) = false := by rfl) :
    PE X (.Call (.Name x p) (e :: es) [] pos) (tCallV X i t) := by
  intro pins s σ H Q I h
  obtain ⟨f, fd, ps, k, sp, hf, F, hr, hk, hb, h⟩ := h
  refine wpAny_Call_Name_kw (thn (pe_var (X := X) (i := i) (x := x) (pos := p) hN hv hd hcd pins s σ H (fun v H' => v = .ref f ∧ H' = H) I ⟨_, hf, rfl, rfl⟩) fun u s1 ⟨v, H1, I1, r1, q1⟩ => ?_)
  obtain ⟨rfl, rfl⟩ := q1
  cases r1
  refine PySem.W.callWith_K (h₀ := X.base) I.ok.mod.kin hk (thn (ha pos pins s1 σ H1 _ I1 h) fun us s2 ⟨vs, H2, I2, r, q⟩ => ⟨I2.kIn, ?_⟩) he hpl
  exact run_fn (dvs := []) (ds := []) F hr hb .nil pass0 I2 r (by rw [List.append_nil]; exact q)
end
end L2
end
section
set_option Elab.async false
set_option linter.all false
namespace TM
open Su115

/-- each from the second on is joined to an earlier one -/
def Wf (a : Abs) : Prop := ∀ (i u : Nat), a.up[i]? = some u → u ≤ i
/-- to whom q was joined -/
def par (a : Abs) (q : Nat) : Nat := a.up.getD (q - 1) 0

theorem n_pos (a : Abs) : 0 < a.n := Nat.succ_pos _
theorem par_lt {a : Abs} (w : Wf a) {q : Nat} (h0 : 0 < q) (h : q < a.n) : par a q < q := by
  have hl : q - 1 < a.up.length := by unfold Abs.n at h; omega
  have e : a.up[q - 1]? = some a.up[q - 1] := List.getElem?_eq_getElem hl
  have := w _ _ e
  unfold par
  rw [List.getD_eq_getElem?_getD, e]
  show a.up[q - 1] < q
  omega

/-- c is a child of p -/
def Ch (a : Abs) (p c : Nat) : Prop := p < c ∧ c < a.n ∧ par a c = p

theorem mem_near {a : Abs} {p q : Nat} (hp : p < a.n) : q ∈ a.near p ↔ Ch a p q ∨ Ch a q p := by
  unfold Abs.near Abs.ps Ch par
  rw [List.mem_filter, List.mem_range]
  simp only [Bool.or_eq_true, Bool.and_eq_true, decide_eq_true_eq, beq_iff_eq]
  constructor
  · rintro ⟨h, ⟨h1, h2⟩ | ⟨h1, h2⟩⟩
    · exact .inl ⟨h1, h, h2⟩
    · exact .inr ⟨h1, hp, h2⟩
  · rintro (⟨h1, h, h2⟩ | ⟨h1, h, h2⟩)
    · exact ⟨h, .inl ⟨h1, h2⟩⟩
    · exact ⟨by omega, .inr ⟨h1, h2⟩⟩
theorem near_lt {a : Abs} {p q : Nat} (h : q ∈ a.near p) : q < a.n := by
  unfold Abs.near Abs.ps at h
  exact List.mem_range.mp (List.mem_filter.mp h).1
theorem near_symm {a : Abs} {p q : Nat} (hp : p < a.n) (h : q ∈ a.near p) : p ∈ a.near q :=
  (mem_near (near_lt h)).mpr ((mem_near hp).mp h).symm
theorem near_ne {a : Abs} {p q : Nat} (hp : p < a.n) (h : q ∈ a.near p) : q ≠ p := by
  rcases (mem_near hp).mp h with ⟨h1, _, _⟩ | ⟨h1, _, _⟩ <;> omega

/-- x lies at or below c -/
inductive Dsc (a : Abs) (c : Nat) : Nat → Prop
  | self : Dsc a c c
  | step {x : Nat} : 0 < x → x < a.n → Dsc a c (par a x) → Dsc a c x

section
variable {a : Abs} (w : Wf a)
include w
theorem dsc_le {c x : Nat} (h : Dsc a c x) : c ≤ x := by
  induction h with
  | self => exact Nat.le_refl _
  | step h0 h1 _ ih => exact Nat.le_trans ih (Nat.le_of_lt (par_lt w h0 h1))
omit w in
theorem dsc_up {c x : Nat} (h : Dsc a c x) (hx : x ≠ c) : 0 < x ∧ Dsc a c (par a x) := by
  cases h with
  | self => exact absurd rfl hx
  | step h0 _ h => exact ⟨h0, h⟩
omit w in
theorem dsc_ch {p c x : Nat} (hc : Ch a p c) (h : Dsc a c x) : Dsc a p x := by
  obtain ⟨h1, h2, h3⟩ := hc
  induction h with
  | self => exact .step (by omega) h2 (by rw [h3]; exact .self)
  | step h0 h1 _ ih => exact .step h0 h1 ih
theorem dsc_apart {p c d x : Nat} (hc : Ch a p c) (hd : Ch a p d) (h : Dsc a c x) (h' : Dsc a d x) : c = d := by
  obtain ⟨c1, c2, c3⟩ := hc
  obtain ⟨d1, d2, d3⟩ := hd
  induction h with
  | self =>
    by_cases e : c = d
    · exact e
    · have q := (dsc_up h' e).2
      rw [c3] at q
      have := dsc_le w q
      omega
  | @step x h0 h1 hh ih =>
    by_cases e : x = d
    · subst e
      rw [d3] at hh
      have := dsc_le w hh
      omega
    · exact ih (dsc_up h' e).2
theorem dsc_zero : ∀ {x : Nat}, x < a.n → Dsc a 0 x := by
  intro x
  induction x using Nat.strongRecOn with
  | ind x ih =>
    intro h
    by_cases h0 : x = 0
    · subst h0; exact .self
    · have := par_lt w (by omega : 0 < x) h
      exact .step (by omega) h (ih _ this (by omega))
omit w in
theorem dsc_child {p x : Nat} (h : Dsc a p x) (hw : Wf a) : x = p ∨ ∃ c, Ch a p c ∧ Dsc a c x := by
  induction h with
  | self => exact .inl rfl
  | @step x h0 h1 hh ih =>
    right
    rcases ih with e | ⟨c, hc, hd⟩
    · exact ⟨x, ⟨by rw [← e]; exact par_lt hw h0 h1, h1, e⟩, .self⟩
    · exact ⟨c, hc, .step h0 h1 hd⟩
end

/-- x is of p's part, seen from s -/
def Pt (a : Abs) (p s x : Nat) : Prop := x < a.n ∧ (Ch a s p → Dsc a p x) ∧ (Ch a p s → ¬ Dsc a s x)

section
variable {a : Abs} {p s q r x y : Nat} (w : Wf a) (hp : p < a.n)
include w hp
theorem pt_self : Pt a p s p := ⟨hp, fun _ => .self, fun h z => by have := dsc_le w z; have := h.1; omega⟩
omit hp in
theorem pt_src (h : s ∈ a.near p) (hs : p < a.n) : ¬ Pt a p s s := by
  rintro ⟨_, h1, h2⟩
  rcases (mem_near hs).mp h with c | c
  · exact h2 c .self
  · have := dsc_le w (h1 c); have := c.1; omega
theorem pt_sub (hq : q ∈ a.near p) (hqs : q ≠ s) (h : Pt a q p x) : Pt a p s x := by
  obtain ⟨hx, h1, h2⟩ := h
  rcases (mem_near hp).mp hq with c | c
  · have d := h1 c
    refine ⟨hx, fun _ => dsc_ch c d, fun c2 d2 => hqs (dsc_apart w c c2 d d2)⟩
  · have d := h2 c
    refine ⟨hx, fun c2 => absurd (c.2.2.symm.trans c2.2.2) hqs, fun c2 d2 => d (dsc_ch c2 d2)⟩
theorem pt_apart (hq : q ∈ a.near p) (hr : r ∈ a.near p) (h : Pt a q p x) (h' : Pt a r p x) : q = r := by
  obtain ⟨hx, h1, h2⟩ := h
  obtain ⟨_, k1, k2⟩ := h'
  rcases (mem_near hp).mp hq with c | c <;> rcases (mem_near hp).mp hr with d | d
  · exact dsc_apart w c d (h1 c) (k1 d)
  · exact absurd (dsc_ch c (h1 c)) (k2 d)
  · exact absurd (dsc_ch d (k1 d)) (h2 c)
  · exact c.2.2.symm.trans d.2.2
theorem pt_cover (h : Pt a p s x) (hx : x ≠ p) : ∃ q, q ∈ a.near p ∧ q ≠ s ∧ Pt a q p x := by
  obtain ⟨hn, h1, h2⟩ := h
  by_cases hd : Dsc a p x
  · rcases dsc_child hd w with e | ⟨c, hc, hd⟩
    · exact absurd e hx
    · refine ⟨c, (mem_near hp).mpr (.inl hc), fun e => ?_, hn, fun _ => hd, fun hb => ?_⟩
      · subst e; exact h2 hc hd
      · have := hb.1; have := hc.1; omega
  · have hp0 : p ≠ 0 := fun e => hd (by rw [e]; exact dsc_zero w hn)
    have c : Ch a (par a p) p := ⟨par_lt w (by omega) hp, hp, rfl⟩
    refine ⟨par a p, (mem_near hp).mpr (.inr c), fun e => hd (h1 (by rw [← e]; exact c)), hn, fun hb => ?_, fun _ => hd⟩
    have := hb.1; have := c.1; omega
omit hp in
theorem pt_back (hp : p < a.n) (hs : s ∈ a.near p) (h : Pt a p s x) (h' : Pt a s p x) : False := by
  obtain ⟨hn, h1, h2⟩ := h
  obtain ⟨_, k1, k2⟩ := h'
  rcases (mem_near hp).mp hs with c | c
  · exact h2 c (k1 c)
  · exact k2 c (h1 c)
omit hp in
theorem pt_both (hp : p < a.n) (hs : s ∈ a.near p) (hx : x < a.n) : Pt a p s x ∨ Pt a s p x := by
  rcases (mem_near hp).mp hs with c | c
  · by_cases d : Dsc a s x
    · exact .inr ⟨hx, fun _ => d, fun e => by have := e.1; have := c.1; omega⟩
    · exact .inl ⟨hx, fun e => by have := e.1; have := c.1; omega, fun _ => d⟩
  · by_cases d : Dsc a p x
    · exact .inl ⟨hx, fun _ => d, fun e => by have := e.1; have := c.1; omega⟩
    · exact .inr ⟨hx, fun e => by have := e.1; have := c.1; omega, fun _ => d⟩
theorem pt_close (h : Pt a p s x) (hy : y ∈ a.near x) (hys : y ≠ s) : Pt a p s y := by
  obtain ⟨hx, h1, h2⟩ := h
  have hyn := near_lt hy
  refine ⟨hyn, fun c => ?_, fun c d => ?_⟩
  · have d := h1 c
    rcases (mem_near hx).mp hy with e | e
    · exact .step (by have := e.1; omega) e.2.1 (by rw [e.2.2]; exact d)
    · by_cases z : x = p
      · subst z
        exact absurd (e.2.2.symm.trans c.2.2) hys
      · have := (dsc_up d z).2
        rw [e.2.2] at this
        exact this
  · have nd := h2 c
    rcases (mem_near hx).mp hy with e | e
    · have := (dsc_up d hys).2
      rw [e.2.2] at this
      exact nd this
    · exact nd (.step (by have := e.1; omega) e.2.1 (by rw [e.2.2]; exact d))
omit hp w in
theorem pt_all (hx : x < a.n) : Pt a p a.n x := ⟨hx, fun c => by have := c.1; have := c.2.1; omega, fun c => by have := c.2.1; omega⟩
omit hp w in
theorem pt_lt (h : Pt a p s x) : x < a.n := h.1
end

/-! ### how many a part has -/
open Classical in
noncomputable def card (a : Abs) (p s : Nat) : Nat := (a.ps.filter fun x => decide (Pt a p s x)).length

theorem filter_lt {α : Type} {f g : α → Bool} : ∀ {l : List α} {y : α}, (∀ x ∈ l, f x = true → g x = true) → y ∈ l → g y = true → f y = false → (l.filter f).length < (l.filter g).length
  | [], _, _, h, _, _ => by cases h
  | z :: l, y, hs, hy, gy, fy => by
    have le : ∀ {l : List α}, (∀ x ∈ l, f x = true → g x = true) → (l.filter f).length ≤ (l.filter g).length := by
      intro l
      induction l with
      | nil => intro _; exact Nat.le_refl _
      | cons b r ih =>
        intro h
        have := ih fun x hx => h x (List.mem_cons_of_mem _ hx)
        by_cases fb : f b = true
        · have gb := h b List.mem_cons_self fb
          rw [List.filter_cons_of_pos fb, List.filter_cons_of_pos gb, List.length_cons, List.length_cons]
          omega
        · rw [List.filter_cons_of_neg fb]
          by_cases gb : g b = true
          · rw [List.filter_cons_of_pos gb, List.length_cons]; omega
          · rw [List.filter_cons_of_neg gb]; exact this
    rcases List.mem_cons.mp hy with e | hy
    · subst e
      have := le fun x hx => hs x (List.mem_cons_of_mem _ hx)
      rw [List.filter_cons_of_pos gy, List.filter_cons_of_neg (by rw [fy]; exact Bool.false_ne_true), List.length_cons]
      omega
    · have := filter_lt (l := l) (fun x hx => hs x (List.mem_cons_of_mem _ hx)) hy gy fy
      by_cases fb : f z = true
      · have gb := hs z List.mem_cons_self fb
        rw [List.filter_cons_of_pos fb, List.filter_cons_of_pos gb, List.length_cons, List.length_cons]
        omega
      · rw [List.filter_cons_of_neg fb]
        by_cases gb : g z = true
        · rw [List.filter_cons_of_pos gb, List.length_cons]; omega
        · rw [List.filter_cons_of_neg gb]; exact this
theorem card_le {a : Abs} {p s : Nat} : card a p s ≤ a.n := by
  unfold card Abs.ps
  exact Nat.le_trans (List.length_filter_le _ _) (Nat.le_of_eq (List.length_range))
open Classical in
theorem card_lt {a : Abs} (w : Wf a) {p s q : Nat} (hp : p < a.n) (hq : q ∈ a.near p) (hqs : q ≠ s) : card a q p < card a p s := by
  unfold card
  refine filter_lt (y := p) (fun x _ hx => ?_) (List.mem_range.mpr hp) ?_ ?_
  · exact decide_eq_true (pt_sub w hp hq hqs (of_decide_eq_true hx))
  · exact decide_eq_true (pt_self w hp)
  · exact decide_eq_false (pt_src w (near_symm hp hq) (near_lt hq))
open Classical in
theorem card_pos {a : Abs} (w : Wf a) {p s : Nat} (hp : p < a.n) : 0 < card a p s := by
  unfold card
  refine List.length_pos_of_mem (a := p) (List.mem_filter.mpr ⟨List.mem_range.mpr hp, decide_eq_true (pt_self w hp)⟩)

/-- all whom p calls, told by s -/
def side (a : Abs) (p s : Nat) : List Nat := (a.near p).filter fun q => q != s
theorem mem_side {a : Abs} {p s q : Nat} : q ∈ side a p s ↔ q ∈ a.near p ∧ q ≠ s := by
  unfold side
  rw [List.mem_filter, bne_iff_ne]

/-- INDUCTION over parts -/
theorem part_ind {a : Abs} (w : Wf a) {C : Nat → Nat → Prop} (h : ∀ p s, p < a.n → (∀ q, q ∈ side a p s → C q p) → C p s) {p s : Nat} (hp : p < a.n) : C p s := by
  have all : ∀ k p s, p < a.n → card a p s ≤ k → C p s := by
    intro k
    induction k with
    | zero => intro p s hp hk; have := card_pos w (s := s) hp; omega
    | succ k ih =>
      intro p s hp hk
      refine h p s hp fun q hq => ?_
      obtain ⟨h1, h2⟩ := mem_side.mp hq
      exact ih q p (near_lt h1) (by have := card_lt w hp h1 h2; omega)
  exact all _ p s hp (Nat.le_refl _)

/-! ### the specification's functions without fuel -/
theorem map_congr' {α β : Type} {f g : α → β} : ∀ {l : List α}, (∀ x ∈ l, f x = g x) → l.map f = l.map g
  | [], _ => rfl
  | x :: l, h => by rw [List.map_cons, List.map_cons, h x List.mem_cons_self, map_congr' fun y hy => h y (List.mem_cons_of_mem _ hy)]
theorem hours_stable {a : Abs} (w : Wf a) : ∀ (f g p s : Nat), p < a.n → card a p s ≤ f → card a p s ≤ g → a.hours f p s = a.hours g p s
  | 0, _, p, s, hp, hf, _ => by have := card_pos w (s := s) hp; omega
  | _ + 1, 0, p, s, hp, _, hg => by have := card_pos w (s := s) hp; omega
  | f + 1, g + 1, p, s, hp, hf, hg => by
    unfold Abs.hours
    rw [map_congr' (l := (a.near p).filter fun q => q != s) fun q hq => ?_]
    obtain ⟨h1, h2⟩ := mem_side.mp hq
    have := card_lt w hp h1 h2
    exact hours_stable w f g q p (near_lt h1) (by omega) (by omega)
/-- hours of q's part seen from p -/
def Hr (a : Abs) (p s : Nat) : Nat := a.hours a.n p s
theorem hr_eq {a : Abs} (w : Wf a) {p s : Nat} (hp : p < a.n) : Hr a p s = after (Su115.sorted ((side a p s).map fun q => Hr a q p)) 1 := by
  unfold Hr
  have e : a.n = a.up.length + 1 := rfl
  conv => lhs; rw [e]
  show after (Su115.sorted ((side a p s).map fun q => a.hours a.up.length q p)) 1 = _
  rw [map_congr' (l := side a p s) (g := fun q => a.hours a.n q p) fun q hq => ?_]
  obtain ⟨h1, h2⟩ := mem_side.mp hq
  have := card_lt w hp h1 h2
  have := card_le (a := a) (p := p) (s := s)
  exact hours_stable w _ _ q p (near_lt h1) (by omega) (by omega)

theorem place_map (a : Abs) (p q : Nat) : ∀ l : List Nat, (a.place p q l).map (fun r => Hr a r p) = Su115.insert (Hr a q p) (l.map fun r => Hr a r p)
  | [] => rfl
  | r :: l => by
    unfold Abs.place
    rw [List.map_cons]
    unfold Su115.insert
    show List.map _ (if Hr a r p < Hr a q p then q :: r :: l else r :: a.place p q l) = _
    by_cases h : Hr a r p < Hr a q p
    · rw [if_pos h, if_pos h]; rfl
    · rw [if_neg h, if_neg h, List.map_cons, place_map a p q l]
theorem order_map (a : Abs) (p s : Nat) : (a.order p s).map (fun r => Hr a r p) = Su115.sorted ((side a p s).map fun r => Hr a r p) := by
  have all : ∀ (l acc : List Nat), (l.foldl (fun l q => a.place p q l) acc).map (fun r => Hr a r p) = (l.map fun r => Hr a r p).foldl (fun s x => Su115.insert x s) (acc.map fun r => Hr a r p) := by
    intro l
    induction l with
    | nil => intro acc; rfl
    | cons q l ih => intro acc; rw [List.foldl_cons, ih, List.map_cons, List.foldl_cons, place_map]
  exact all _ []
theorem hr_order {a : Abs} (w : Wf a) {p s : Nat} (hp : p < a.n) : Hr a p s = after ((a.order p s).map fun q => Hr a q p) 1 := by
  rw [order_map, ← hr_eq w hp]

theorem place_perm (a : Abs) (p q : Nat) : ∀ l : List Nat, (a.place p q l).Perm (q :: l)
  | [] => List.Perm.refl _
  | r :: l => by
    unfold Abs.place
    by_cases h : a.hours a.n r p < a.hours a.n q p
    · rw [if_pos h]
    · rw [if_neg h]
      exact ((place_perm a p q l).cons r).trans (List.Perm.swap q r l)
theorem order_perm (a : Abs) (p s : Nat) : (a.order p s).Perm (side a p s) := by
  have all : ∀ (l acc : List Nat), (l.foldl (fun l q => a.place p q l) acc).Perm (l ++ acc) := by
    intro l
    induction l with
    | nil => intro acc; exact List.Perm.refl _
    | cons q l ih =>
      intro acc
      rw [List.foldl_cons]
      refine (ih _).trans ?_
      refine ((place_perm a p q acc).append_left l).trans ?_
      rw [List.cons_append]
      exact List.perm_middle
  have := all (side a p s) []
  rw [List.append_nil] at this
  exact this
theorem mem_order {a : Abs} {p s q : Nat} : q ∈ a.order p s ↔ q ∈ a.near p ∧ q ≠ s := (order_perm a p s).mem_iff.trans mem_side

/-- who is called ahead -/
def Bef (a : Abs) (p r q : Nat) : Prop := Hr a q p < Hr a r p ∨ (Hr a r p = Hr a q p ∧ r < q)
theorem place_mem {a : Abs} {p q x : Nat} {l : List Nat} (h : x ∈ a.place p q l) : x = q ∨ x ∈ l := by
  have := (place_perm a p q l).mem_iff.mp h
  exact List.mem_cons.mp this
theorem place_sorted {a : Abs} {p q : Nat} : ∀ {l : List Nat}, (∀ r ∈ l, r < q) → l.Pairwise (Bef a p) → (a.place p q l).Pairwise (Bef a p)
  | [], _, _ => List.pairwise_singleton _ _
  | r :: l, hl, hs => by
    obtain ⟨h1, h2⟩ := List.pairwise_cons.mp hs
    unfold Abs.place
    by_cases h : a.hours a.n r p < a.hours a.n q p
    · rw [if_pos h]
      refine List.pairwise_cons.mpr ⟨fun x hx => ?_, hs⟩
      rcases List.mem_cons.mp hx with e | hx
      · subst e; exact .inl h
      · have h : Hr a r p < Hr a q p := h
        rcases h1 x hx with z | ⟨z, _⟩
        · exact .inl (Nat.lt_trans z h)
        · exact .inl (by rw [← z]; exact h)
    · rw [if_neg h]
      have h : ¬ Hr a r p < Hr a q p := h
      refine List.pairwise_cons.mpr ⟨fun x hx => ?_, place_sorted (fun y hy => hl y (List.mem_cons_of_mem _ hy)) h2⟩
      rcases place_mem hx with e | hx
      · subst e
        have := hl r List.mem_cons_self
        unfold Bef
        omega
      · exact h1 x hx
theorem ps_sorted (a : Abs) : a.ps.Pairwise (· < ·) := List.pairwise_lt_range
theorem near_sorted (a : Abs) (p : Nat) : (a.near p).Pairwise (· < ·) := (ps_sorted a).sublist List.filter_sublist
theorem side_sorted (a : Abs) (p s : Nat) : (side a p s).Pairwise (· < ·) := (near_sorted a p).sublist List.filter_sublist
theorem order_sorted (a : Abs) (p s : Nat) : (a.order p s).Pairwise (Bef a p) := by
  have all : ∀ (l acc : List Nat), l.Pairwise (· < ·) → (∀ r ∈ acc, ∀ q ∈ l, r < q) → acc.Pairwise (Bef a p) → (l.foldl (fun l q => a.place p q l) acc).Pairwise (Bef a p) := by
    intro l
    induction l with
    | nil => intro acc _ _ h; exact h
    | cons q l ih =>
      intro acc hl ha h
      obtain ⟨h1, h2⟩ := List.pairwise_cons.mp hl
      rw [List.foldl_cons]
      refine ih _ h2 (fun r hr x hx => ?_) (place_sorted (fun r hr => ha r hr q List.mem_cons_self) h)
      rcases place_mem hr with e | hr
      · subst e; exact h1 x hx
      · exact ha r hr x (List.mem_cons_of_mem _ hx)
  exact all _ [] (side_sorted a p s) (fun r hr => by cases hr) List.Pairwise.nil
theorem nodup_of_lt {l : List Nat} (h : l.Pairwise (· < ·)) : l.Nodup := h.imp fun h e => by subst e; exact Nat.lt_irrefl _ h
theorem side_nodup (a : Abs) (p s : Nat) : (side a p s).Nodup := nodup_of_lt (side_sorted a p s)
theorem order_nodup (a : Abs) (p s : Nat) : (a.order p s).Nodup := (order_perm a p s).nodup_iff.mpr (side_nodup a p s)
end TM
end
section
set_option Elab.async false
set_option linter.all false
namespace TM
open Su115

/-! ### plan -/
theorem flatMap_congr' {α β : Type} {f g : α → List β} : ∀ {l : List α}, (∀ x ∈ l, f x = g x) → l.flatMap f = l.flatMap g
  | [], _ => rfl
  | x :: l, h => by rw [List.flatMap_cons, List.flatMap_cons, h x List.mem_cons_self, flatMap_congr' fun y hy => h y (List.mem_cons_of_mem _ hy)]
theorem getD_mem {l : List Nat} {i : Nat} (h : i < l.length) : l.getD i 0 ∈ l := by
  rw [List.getD_eq_getElem?_getD, List.getElem?_eq_getElem h]
  exact List.getElem_mem h
theorem plan_stable {a : Abs} (w : Wf a) : ∀ (f g p s t : Nat), p < a.n → card a p s ≤ f → card a p s ≤ g → a.plan f p s t = a.plan g p s t
  | 0, _, p, s, t, hp, hf, _ => by have := card_pos w (s := s) hp; omega
  | _ + 1, 0, p, s, t, hp, _, hg => by have := card_pos w (s := s) hp; omega
  | f + 1, g + 1, p, s, t, hp, hf, hg => by
    unfold Abs.plan
    show (p, t) :: _ = (p, t) :: _
    congr 1
    refine flatMap_congr' fun i hi => ?_
    have hq := getD_mem (List.mem_range.mp hi)
    obtain ⟨h1, h2⟩ := mem_order.mp hq
    have := card_lt w hp h1 h2
    exact plan_stable w f g _ p _ (near_lt h1) (by omega) (by omega)
def Pl (a : Abs) (p s t : Nat) : List (Nat × Nat) := a.plan a.n p s t
/-- each of o in its turn -/
def plans (a : Abs) (p : Nat) : List Nat → Nat → List (Nat × Nat)
  | [], _ => []
  | q :: o, t => Pl a q p (t + 1) ++ plans a p o (t + 1)
theorem plans_range (a : Abs) (p : Nat) : ∀ (o : List Nat) (t : Nat), (List.range o.length).flatMap (fun i => Pl a (o.getD i 0) p (t + i + 1)) = plans a p o t
  | [], t => rfl
  | q :: o, t => by
    rw [List.length_cons, List.range_succ_eq_map, List.flatMap_cons, List.flatMap_map]
    show Pl a q p (t + 0 + 1) ++ List.flatMap (fun i => Pl a ((q :: o).getD (i + 1) 0) p (t + (i + 1) + 1)) _ = _
    unfold plans
    rw [Nat.add_zero, ← plans_range a p o (t + 1)]
    congr 1
    refine flatMap_congr' fun i _ => ?_
    rw [show t + (i + 1) + 1 = t + 1 + i + 1 by omega]
    rfl
theorem pl_eq {a : Abs} (w : Wf a) {p s t : Nat} (hp : p < a.n) : Pl a p s t = (p, t) :: plans a p (a.order p s) t := by
  unfold Pl
  have e : a.n = a.up.length + 1 := rfl
  conv => lhs; rw [e]
  show (p, t) :: (List.range (a.order p s).length).flatMap (fun i => a.plan a.up.length ((a.order p s).getD i 0) p (t + i + 1)) = _
  congr 1
  rw [← plans_range]
  refine flatMap_congr' fun i hi => ?_
  have hq := getD_mem (List.mem_range.mp hi)
  obtain ⟨h1, h2⟩ := mem_order.mp hq
  have := card_lt w hp h1 h2
  have := card_le (a := a) (p := p) (s := s)
  exact plan_stable w _ _ _ p _ (near_lt h1) (by omega) (by omega)

/-! ### who is told by a plan, once each -/
theorem plans_mem {a : Abs} {p : Nat} {z : Nat × Nat} : ∀ {o : List Nat} {t : Nat}, z ∈ plans a p o t → ∃ q ∈ o, ∃ u, z ∈ Pl a q p u
  | [], t, h => by cases h
  | q :: o, t, h => by
    unfold plans at h
    rcases List.mem_append.mp h with h | h
    · exact ⟨q, List.mem_cons_self, _, h⟩
    · obtain ⟨r, hr, h⟩ := plans_mem h
      exact ⟨r, List.mem_cons_of_mem _ hr, h⟩
theorem pl_keys {a : Abs} (w : Wf a) {p s : Nat} (hp : p < a.n) : ∀ (t : Nat) (z : Nat × Nat), z ∈ Pl a p s t → Pt a p s z.1 := by
  refine part_ind w (C := fun p s => ∀ (t : Nat) (z : Nat × Nat), z ∈ Pl a p s t → Pt a p s z.1) (fun p s hp ih t z hz => ?_) hp
  rw [pl_eq w hp] at hz
  rcases List.mem_cons.mp hz with e | hz
  · subst e; exact pt_self w hp
  · obtain ⟨q, hq, u, hz⟩ := plans_mem hz
    obtain ⟨h1, h2⟩ := mem_order.mp hq
    exact pt_sub w hp h1 h2 (ih q (mem_side.mpr ⟨h1, h2⟩) u z hz)
theorem plans_keys_nodup {a : Abs} (w : Wf a) {p : Nat} (hp : p < a.n) : ∀ {o : List Nat} {t : Nat}, o.Nodup → (∀ q ∈ o, q ∈ a.near p) → (∀ q ∈ o, ∀ t, ((Pl a q p t).map (·.1)).Nodup) → ((plans a p o t).map (·.1)).Nodup
  | [], t, _, _, _ => by unfold plans; exact List.nodup_nil
  | q :: o, t, nd, hn, hs => by
    obtain ⟨n1, n2⟩ := List.nodup_cons.mp nd
    unfold plans
    rw [List.map_append]
    refine List.nodup_append.mpr ⟨hs q List.mem_cons_self _, plans_keys_nodup w hp n2 (fun r hr => hn r (List.mem_cons_of_mem _ hr)) (fun r hr => hs r (List.mem_cons_of_mem _ hr)), ?_⟩
    intro x hx y hy e
    subst e
    obtain ⟨z, hz, rfl⟩ := List.mem_map.mp hx
    obtain ⟨z', hz', e'⟩ := List.mem_map.mp hy
    obtain ⟨r, hr, u, hz'⟩ := plans_mem hz'
    have hq := hn q List.mem_cons_self
    have hr' := hn r (List.mem_cons_of_mem _ hr)
    have k1 := pl_keys w (near_lt hq) _ _ hz
    have k2 := pl_keys w (near_lt hr') _ _ hz'
    rw [e'] at k2
    have := pt_apart w hp hq hr' k1 k2
    subst this
    exact n1 hr
theorem pl_nodup {a : Abs} (w : Wf a) {p s : Nat} (hp : p < a.n) : ∀ t : Nat, ((Pl a p s t).map (·.1)).Nodup := by
  refine part_ind w (C := fun p s => ∀ t : Nat, ((Pl a p s t).map (·.1)).Nodup) (fun p s hp ih t => ?_) hp
  rw [pl_eq w hp, List.map_cons]
  refine List.nodup_cons.mpr ⟨fun h => ?_, plans_keys_nodup w hp (order_nodup a p s) (fun q hq => (mem_order.mp hq).1) fun q hq => ih q (mem_side.mpr (mem_order.mp hq))⟩
  obtain ⟨z, hz, e⟩ := List.mem_map.mp h
  obtain ⟨q, hq, u, hz⟩ := plans_mem hz
  have h1 := (mem_order.mp hq).1
  have k := pl_keys w (near_lt h1) _ _ hz
  have e : z.1 = p := e
  rw [e] at k
  exact pt_src w (near_symm hp h1) (near_lt h1) k

/-! ### how many -/
def Sz (a : Abs) (p s : Nat) : Nat := (Pl a p s 0).length
theorem pl_len {a : Abs} (w : Wf a) {p s : Nat} (hp : p < a.n) : ∀ t u : Nat, (Pl a p s t).length = (Pl a p s u).length := by
  refine part_ind w (C := fun p s => ∀ t u : Nat, (Pl a p s t).length = (Pl a p s u).length) (fun p s hp ih t u => ?_) hp
  rw [pl_eq w hp, pl_eq w hp, List.length_cons, List.length_cons]
  have all : ∀ (o : List Nat) (t u : Nat), (∀ q ∈ o, q ∈ side a p s) → (plans a p o t).length = (plans a p o u).length := by
    intro o
    induction o with
    | nil => intro t u _; rfl
    | cons q o iho =>
      intro t u h
      unfold plans
      rw [List.length_append, List.length_append, ih q (h q List.mem_cons_self) (t + 1) (u + 1), iho (t + 1) (u + 1) fun r hr => h r (List.mem_cons_of_mem _ hr)]
  rw [all _ t u fun q hq => mem_side.mpr (mem_order.mp hq)]
theorem sz_eq {a : Abs} (w : Wf a) {p s : Nat} (hp : p < a.n) : Sz a p s = 1 + ((side a p s).map fun q => Sz a q p).sum := by
  unfold Sz
  rw [pl_eq w hp, List.length_cons]
  have all : ∀ (o : List Nat) (t : Nat), (∀ q ∈ o, q ∈ side a p s) → (plans a p o t).length = (o.map fun q => (Pl a q p 0).length).sum := by
    intro o
    induction o with
    | nil => intro t _; rfl
    | cons q o iho =>
      intro t h
      unfold plans
      rw [List.length_append, List.map_cons, List.sum_cons, iho (t + 1) fun r hr => h r (List.mem_cons_of_mem _ hr), pl_len w (near_lt (mem_side.mp (h q List.mem_cons_self)).1) (t + 1) 0]
  rw [all _ 0 fun q hq => mem_side.mpr (mem_order.mp hq)]
  have e := ((order_perm a p s).map fun q => (Pl a q p 0).length).sum_nat
  rw [e]
  omega

/-! ### told -/
/-- written one behind another -/
def puts (h : List Nat) (l : List (Nat × Nat)) : List Nat := l.foldl (fun h z => h.set z.1 z.2) h
theorem puts_append (h : List Nat) (l m : List (Nat × Nat)) : puts h (l ++ m) = puts (puts h l) m := List.foldl_append
theorem puts_length : ∀ (l : List (Nat × Nat)) (h : List Nat), (puts h l).length = h.length
  | [], h => rfl
  | z :: l, h => by
    show (puts (h.set z.1 z.2) l).length = _
    rw [puts_length l, List.length_set]
theorem puts_ne : ∀ (l : List (Nat × Nat)) (h : List Nat) (x : Nat), (∀ z ∈ l, z.1 ≠ x) → (puts h l)[x]? = h[x]?
  | [], h, x, _ => rfl
  | z :: l, h, x, hx => by
    show (puts (h.set z.1 z.2) l)[x]? = _
    rw [puts_ne l _ x fun y hy => hx y (List.mem_cons_of_mem _ hy), List.getElem?_set_ne (hx z List.mem_cons_self)]
theorem puts_at : ∀ (l : List (Nat × Nat)) (h : List Nat) (x : Nat), (l.map (·.1)).Nodup → (hx : x < h.length) → (puts h l)[x]? = some (((l.find? fun z => z.1 == x).map fun z => z.2).getD (h.getD x 0))
  | [], h, x, _, hx => by
    show h[x]? = some (h.getD x 0)
    rw [List.getD_eq_getElem?_getD, List.getElem?_eq_getElem hx]
    rfl
  | z :: l, h, x, nd, hx => by
    obtain ⟨n1, n2⟩ := List.nodup_cons.mp (show (z.1 :: l.map (·.1)).Nodup from nd)
    show (puts (h.set z.1 z.2) l)[x]? = _
    by_cases e : z.1 = x
    · subst e
      rw [puts_ne l _ _ fun y hy q => n1 (List.mem_map.mpr ⟨y, hy, q⟩), List.getElem?_set_self hx, List.find?_cons_of_pos (by exact beq_self_eq_true _)]
      rfl
    · rw [puts_at l _ x n2 (by rw [List.length_set]; exact hx), List.find?_cons_of_neg (by intro q; exact e (eq_of_beq q))]
      rw [List.getD_eq_getElem?_getD, List.getD_eq_getElem?_getD, List.getElem?_set_ne e]
theorem told_eq {a : Abs} (w : Wf a) {p : Nat} (hp : p < a.n) : a.told p = puts (List.replicate a.n 0) (Pl a p a.n 0) := by
  refine List.ext_getElem? fun x => ?_
  unfold Abs.told Abs.ps
  by_cases hx : x < a.n
  · rw [List.getElem?_map, List.getElem?_range hx, puts_at _ _ x (pl_nodup w hp 0) (by rw [List.length_replicate]; exact hx)]
    show some _ = some _
    congr 2
    rw [List.getD_eq_getElem?_getD, List.getElem?_replicate, if_pos hx]
    rfl
  · rw [List.getElem?_eq_none (by rw [List.length_map, List.length_range]; omega), List.getElem?_eq_none (by rw [puts_length, List.length_replicate]; omega)]

/-! ### nobody: the two ways to say it -/
theorem near_self {a : Abs} {p : Nat} (hp : p < a.n) : p ∉ a.near p := fun h => near_ne hp h rfl
theorem side_nobody {a : Abs} {p s : Nat} (h : s ∉ a.near p) : side a p s = a.near p := by
  unfold side
  refine List.filter_eq_self.mpr fun q hq => bne_iff_ne.mpr fun e => ?_
  subst e
  exact h hq
theorem near_n {a : Abs} {p : Nat} : a.n ∉ a.near p := fun h => Nat.lt_irrefl _ (near_lt h)
theorem order_nobody {a : Abs} {p : Nat} (hp : p < a.n) : a.order p p = a.order p a.n := by
  have e : side a p p = side a p a.n := by rw [side_nobody (near_self hp), side_nobody near_n]
  unfold side at e
  unfold Abs.order
  rw [e]
theorem hr_nobody {a : Abs} (w : Wf a) {p : Nat} (hp : p < a.n) : Hr a p p = Hr a p a.n := by
  rw [hr_order w hp, hr_order w hp, order_nobody hp]
theorem pl_nobody {a : Abs} (w : Wf a) {p t : Nat} (hp : p < a.n) : Pl a p p t = Pl a p a.n t := by
  rw [pl_eq w hp, pl_eq w hp, order_nobody hp]

/-! ### dist -/
theorem findSome_congr {α β : Type} {f g : α → Option β} : ∀ {l : List α}, (∀ x ∈ l, f x = g x) → l.findSome? f = l.findSome? g
  | [], _ => rfl
  | x :: l, h => by rw [List.findSome?_cons, List.findSome?_cons, h x List.mem_cons_self, findSome_congr fun y hy => h y (List.mem_cons_of_mem _ hy)]
theorem dist_stable {a : Abs} (w : Wf a) : ∀ (f g p s q : Nat), p < a.n → card a p s ≤ f → card a p s ≤ g → a.dist f p s q = a.dist g p s q
  | 0, _, p, s, t, hp, hf, _ => by have := card_pos w (s := s) hp; omega
  | _ + 1, 0, p, s, t, hp, _, hg => by have := card_pos w (s := s) hp; omega
  | f + 1, g + 1, p, s, t, hp, hf, hg => by
    unfold Abs.dist
    rw [findSome_congr (l := (a.near p).filter fun q => q != s) fun q hq => ?_]
    obtain ⟨h1, h2⟩ := mem_side.mp hq
    have := card_lt w hp h1 h2
    exact dist_stable w f g q p _ (near_lt h1) (by omega) (by omega)
def Di (a : Abs) (p s q : Nat) : Option Nat := a.dist a.n p s q
theorem di_eq {a : Abs} (w : Wf a) {p s q : Nat} (hp : p < a.n) : Di a p s q = if p = q then some 0 else ((side a p s).findSome? fun r => Di a r p q).map fun d => d + 1 := by
  unfold Di
  have e : a.n = a.up.length + 1 := rfl
  conv => lhs; rw [e]
  show (if p = q then some 0 else ((side a p s).findSome? fun r => a.dist a.up.length r p q).map fun d => d + 1) = _
  rw [findSome_congr (l := side a p s) (g := fun r => a.dist a.n r p q) fun r hr => ?_]
  obtain ⟨h1, h2⟩ := mem_side.mp hr
  have := card_lt w hp h1 h2
  have := card_le (a := a) (p := p) (s := s)
  exact dist_stable w _ _ r p _ (near_lt h1) (by omega) (by omega)
theorem di_self {a : Abs} (w : Wf a) {p s : Nat} (hp : p < a.n) : Di a p s p = some 0 := by rw [di_eq w hp, if_pos rfl]
theorem findSome_none {α β : Type} {f : α → Option β} : ∀ {l : List α}, (∀ x ∈ l, f x = none) → l.findSome? f = none
  | [], _ => rfl
  | x :: l, h => by rw [List.findSome?_cons, h x List.mem_cons_self]; exact findSome_none fun y hy => h y (List.mem_cons_of_mem _ hy)
theorem findSome_one {α β : Type} {f : α → Option β} {x : α} {v : β} : ∀ {l : List α}, x ∈ l → f x = some v → (∀ y ∈ l, y ≠ x → f y = none) → l.findSome? f = some v
  | [], h, _, _ => by cases h
  | y :: l, h, hv, hn => by
    rw [List.findSome?_cons]
    by_cases e : y = x
    · subst e; rw [hv]
    · rw [hn y List.mem_cons_self e]
      exact findSome_one ((List.mem_cons.mp h).resolve_left fun z => e z.symm) hv fun z hz => hn z (List.mem_cons_of_mem _ hz)
theorem di_none {a : Abs} (w : Wf a) {p s : Nat} (hp : p < a.n) : ∀ q, ¬ Pt a p s q → Di a p s q = none := by
  refine part_ind w (C := fun p s => ∀ q, ¬ Pt a p s q → Di a p s q = none) (fun p s hp ih q hq => ?_) hp
  rw [di_eq w hp, if_neg fun e => hq (by subst e; exact pt_self w hp), findSome_none fun r hr => ih r hr q fun h => ?_]
  · rfl
  · obtain ⟨h1, h2⟩ := mem_side.mp hr
    exact hq (pt_sub w hp h1 h2 h)
theorem di_next {a : Abs} (w : Wf a) {p s r q : Nat} (hp : p < a.n) (hr : r ∈ a.near p) (hrs : r ≠ s) (hq : Pt a r p q) : Di a p s q = (Di a r p q).map fun d => d + 1 := by
  have hne : p ≠ q := fun e => by subst e; exact pt_src w (near_symm hp hr) (near_lt hr) hq
  rw [di_eq w hp, if_neg hne]
  cases e : Di a r p q with
  | some d =>
    rw [findSome_one (mem_side.mpr ⟨hr, hrs⟩) e fun y hy hyr => ?_]
    have hy := (mem_side.mp hy).1
    exact di_none w (near_lt hy) q fun h => hyr (pt_apart w hp hy hr h hq)
  | none =>
    rw [findSome_none fun y hy => ?_]
    by_cases z : y = r
    · rw [z]; exact e
    · have hy := (mem_side.mp hy).1
      exact di_none w (near_lt hy) q fun h => z (pt_apart w hp hy hr h hq)
theorem di_some {a : Abs} (w : Wf a) {p s : Nat} (hp : p < a.n) : ∀ q, Pt a p s q → ∃ d, Di a p s q = some d := by
  refine part_ind w (C := fun p s => ∀ q, Pt a p s q → ∃ d, Di a p s q = some d) (fun p s hp ih q hq => ?_) hp
  by_cases e : q = p
  · subst e; exact ⟨0, di_self w hp⟩
  · obtain ⟨r, h1, h2, h3⟩ := pt_cover w hp hq e
    obtain ⟨d, hd⟩ := ih r (mem_side.mpr ⟨h1, h2⟩) q h3
    exact ⟨d + 1, by rw [di_next w hp h1 h2 h3, hd]; rfl⟩
/-- one join farther -/
theorem di_step {a : Abs} (w : Wf a) {p s : Nat} (hp : p < a.n) : ∀ q r, Pt a p s q → r ∈ a.near q → r ≠ s → ¬ Pt a r q p → ∃ d, Di a p s q = some d ∧ Di a p s r = some (d + 1) := by
  refine part_ind w (C := fun p s => ∀ q r, Pt a p s q → r ∈ a.near q → r ≠ s → ¬ Pt a r q p → ∃ d, Di a p s q = some d ∧ Di a p s r = some (d + 1)) (fun p s hp ih q r hq hr hrs hn => ?_) hp
  by_cases e : q = p
  · subst e
    refine ⟨0, di_self w hp, ?_⟩
    rw [di_next w hp hr hrs (pt_self w (near_lt hr)), di_self w (near_lt hr)]
    rfl
  · obtain ⟨p', h1, h2, h3⟩ := pt_cover w hp hq e
    have hq' : q < a.n := hq.1
    have hrp : r ≠ p := fun z => hn (by rw [← z]; exact pt_self w (near_lt hr))
    have hr3 : Pt a p' p r := pt_close w (near_lt h1) h3 hr hrp
    have hn' : ¬ Pt a r q p' := fun z => hn (pt_close w (near_lt hr) z (near_symm hp h1) (fun z => e z.symm))
    obtain ⟨d, d1, d2⟩ := ih p' (mem_side.mpr ⟨h1, h2⟩) q r h3 hr hrp hn'
    exact ⟨d + 1, by rw [di_next w hp h1 h2 h3, d1]; rfl, by rw [di_next w hp h1 h2 hr3, d2]; rfl⟩
end TM
end
section
set_option Elab.async false
set_option linter.all false
namespace TM
open Su115

/-! ### far -/
theorem far_di {a : Abs} (w : Wf a) {p q : Nat} (hp : p < a.n) (hq : q < a.n) : Di a p a.n q = some (a.far p q) := by
  obtain ⟨d, e⟩ := di_some w hp q (pt_all (p := p) hq)
  unfold Abs.far
  unfold Di at e ⊢
  rw [e]
  rfl
theorem far_self {a : Abs} (w : Wf a) {p : Nat} (hp : p < a.n) : a.far p p = 0 := by
  have := far_di w hp hp
  rw [di_self w hp] at this
  exact (Option.some.inj this).symm
/-- away from p -/
theorem far_step {a : Abs} (w : Wf a) {p q r : Nat} (hp : p < a.n) (hq : q < a.n) (hr : r ∈ a.near q) (hn : ¬ Pt a r q p) : a.far p r = a.far p q + 1 := by
  obtain ⟨d, d1, d2⟩ := di_step w hp q r (pt_all (p := p) hq) hr (Nat.ne_of_lt (near_lt hr)) hn
  rw [far_di w hp hq] at d1
  rw [far_di w hp (near_lt hr)] at d2
  have e1 := Option.some.inj d1
  have e2 := Option.some.inj d2
  omega
/-- towards p -/
theorem far_back {a : Abs} (w : Wf a) {p q r : Nat} (hp : p < a.n) (hq : q < a.n) (hr : r ∈ a.near q) (hn : Pt a r q p) : a.far p q = a.far p r + 1 :=
  far_step w hp (near_lt hr) (near_symm hq hr) fun h => pt_back w (near_lt hr) (near_symm hq hr) hn h
/-- the one who tells q, the news being from p -/
theorem teller {a : Abs} (w : Wf a) {p q : Nat} (hp : p < a.n) (hq : q < a.n) (hne : q ≠ p) : ∃ r, r ∈ a.near q ∧ Pt a r q p := by
  obtain ⟨r, h1, _, h3⟩ := pt_cover w hq (pt_all (p := q) hp) (fun e => hne e.symm)
  exact ⟨r, h1, h3⟩
theorem find_one {α : Type} {f : α → Bool} {x : α} : ∀ {l : List α}, x ∈ l → f x = true → (∀ y ∈ l, f y = true → y = x) → l.find? f = some x
  | [], h, _, _ => by cases h
  | y :: l, h, hx, hu => by
    by_cases e : f y = true
    · rw [List.find?_cons_of_pos e, hu y List.mem_cons_self e]
    · rw [List.find?_cons_of_neg e]
      exact find_one ((List.mem_cons.mp h).resolve_left fun z => e (z ▸ hx)) hx fun z hz => hu z (List.mem_cons_of_mem _ hz)
theorem caller_iff {a : Abs} (w : Wf a) {p q r : Nat} (hp : p < a.n) (hq : q < a.n) (hne : q ≠ p) : a.caller p q = some r ↔ r ∈ a.near q ∧ Pt a r q p := by
  obtain ⟨r0, h1, h3⟩ := teller w hp hq hne
  have e : a.caller p q = some r0 := by
    unfold Abs.caller
    refine find_one h1 (decide_eq_true ?_) fun y hy hd => ?_
    · have := far_back w hp hq h1 h3; omega
    · by_cases z : Pt a y q p
      · exact pt_apart w hq hy h1 z h3
      · have := far_step w hp hq hy z
        have := of_decide_eq_true hd
        omega
  rw [e]
  constructor
  · intro z; cases z; exact ⟨h1, h3⟩
  · rintro ⟨k1, k3⟩
    rw [pt_apart w hq h1 k1 h3 k3]

/-! ### could -/
/-- of two rows: what is asked of p's part, seen from s -/
def CouldP (a : Abs) (h : Nat → Nat) (p s : Nat) : Prop := ∀ q, Pt a p s q → q ≠ p → ∀ r, r ∈ a.near q → Pt a r q p → h r < h q ∧ ∀ x, Pt a p s x → x ≠ p → x ≠ q → r ∈ a.near x → Pt a r x p → h x ≠ h q
theorem pt_move {a : Abs} (w : Wf a) {p p' q r : Nat} (hr : r < a.n) (h1 : p' ∈ a.near p) (hq : p' ≠ q) (h : Pt a r q p) : Pt a r q p' :=
  pt_close w hr h h1 hq
theorem could_step {a : Abs} (w : Wf a) {h : Nat → Nat} {p s : Nat} (hp : p < a.n) (hps : s ∉ a.near p ∨ ¬ Pt a p s s) :
    CouldP a h p s ↔ (∀ q ∈ side a p s, h p < h q) ∧ (∀ q ∈ side a p s, ∀ r ∈ side a p s, q ≠ r → h q ≠ h r) ∧ ∀ q ∈ side a p s, CouldP a h q p := by
  have inS : ∀ q, q ∈ side a p s → Pt a p s q := fun q hq => by
    obtain ⟨h1, h2⟩ := mem_side.mp hq
    exact pt_sub w hp h1 h2 (pt_self w (near_lt h1))
  constructor
  · intro C
    refine ⟨fun q hq => ?_, fun q hq r hr hne => ?_, fun q hq => ?_⟩
    · obtain ⟨h1, h2⟩ := mem_side.mp hq
      exact (C q (inS q hq) (near_ne hp h1) p (near_symm hp h1) (pt_self w hp)).1
    · obtain ⟨h1, h2⟩ := mem_side.mp hq
      obtain ⟨k1, k2⟩ := mem_side.mp hr
      exact (C r (inS r hr) (near_ne hp k1) p (near_symm hp k1) (pt_self w hp)).2 q (inS q hq) (near_ne hp h1) hne (near_symm hp h1) (pt_self w hp)
    · obtain ⟨h1, h2⟩ := mem_side.mp hq
      intro x hx hxq r hr hrx
      have hqn := near_lt h1
      have sub : ∀ {y}, Pt a q p y → Pt a p s y := fun hy => pt_sub w hp h1 h2 hy
      have nep : ∀ {y}, Pt a q p y → y ≠ p := fun hy e => by subst e; exact pt_src w (near_symm hp h1) hqn hy
      have toP : ∀ {y r}, Pt a q p y → y ≠ q → r ∈ a.near y → Pt a r y q → Pt a r y p := fun hy hyq hr hh => pt_move w (near_lt hr) (near_symm hp h1) (fun z => nep hy z.symm) hh
      obtain ⟨c1, c2⟩ := C x (sub hx) (nep hx) r hr (toP hx hxq hr hrx)
      exact ⟨c1, fun y hy hyq hyx hry hrp => c2 y (sub hy) (nep hy) hyx hry (toP hy hyq hry hrp)⟩
  · rintro ⟨C1, C2, C3⟩ q hq hqp r hr hrp
    obtain ⟨p', h1, h2, h3⟩ := pt_cover w hp hq hqp
    have hqn := hq.1
    have hp' := near_lt h1
    have mp' : p' ∈ side a p s := mem_side.mpr ⟨h1, h2⟩
    by_cases e : q = p'
    · subst e
      -- q is called by p himself
      have er : r = p := pt_apart w hqn hr (near_symm hp h1) hrp (pt_self w hp)
      subst er
      refine ⟨C1 q mp', fun x hx hxp hxq hrx hxp' => ?_⟩
      have hxn := hx.1
      have hxr : x ∈ a.near r := near_symm hxn hrx
      have hxs : x ≠ s := fun z => by
        subst z
        rcases hps with z | z
        · exact z hxr
        · exact z hx
      exact C2 x (mem_side.mpr ⟨hxr, hxs⟩) q mp' hxq
    · have toQ : ∀ {y r}, Pt a p' p y → y ≠ p' → r ∈ a.near y → Pt a r y p → Pt a r y p' := fun hy hyq hr hh => pt_move w (near_lt hr) h1 (fun z => hyq z.symm) hh
      obtain ⟨c1, c2⟩ := C3 p' mp' q h3 e r hr (toQ h3 e hr hrp)
      refine ⟨c1, fun x hx hxp hxq hrx hxp' => ?_⟩
      have hxn := hx.1
      -- r is of the part of p'
      have hrp0 : r ≠ p := fun z => by
        subst z
        exact e (pt_apart w hp (near_symm hqn hr) h1 (pt_self w hqn) h3)
      have hr' : Pt a p' p r := pt_close w hp' h3 hr hrp0
      have hx' : Pt a p' p x := pt_close w hp' hr' (near_symm hxn hrx) hxp
      have hxe : x ≠ p' := fun z => by
        subst z
        exact hrp0 (pt_apart w hxn hrx (near_symm hp h1) hxp' (pt_self w hp))
      exact c2 x hx' hxe hxq hrx (toQ hx' hxe hrx hxp')
theorem nodup_map_iff {h : Nat → Nat} : ∀ {l : List Nat}, l.Nodup → ((l.map h).Nodup ↔ ∀ q ∈ l, ∀ r ∈ l, q ≠ r → h q ≠ h r)
  | [], _ => by simp
  | x :: l, nd => by
    obtain ⟨n1, n2⟩ := List.nodup_cons.mp nd
    rw [List.map_cons, List.nodup_cons, nodup_map_iff n2]
    constructor
    · rintro ⟨h1, h2⟩ q hq r hr hne
      rcases List.mem_cons.mp hq with e | mq <;> rcases List.mem_cons.mp hr with e' | mr
      · exact absurd (e.trans e'.symm) hne
      · rw [e]; exact fun z => h1 (List.mem_map.mpr ⟨r, mr, z.symm⟩)
      · rw [e']; exact fun z => h1 (List.mem_map.mpr ⟨q, mq, z⟩)
      · exact h2 q mq r mr hne
    · intro C
      refine ⟨fun hm => ?_, fun q hq r hr => C q (List.mem_cons_of_mem _ hq) r (List.mem_cons_of_mem _ hr)⟩
      obtain ⟨q, hq, e⟩ := List.mem_map.mp hm
      exact C q (List.mem_cons_of_mem _ hq) x List.mem_cons_self (fun z => n1 (z ▸ hq)) e
/-- as the program goes: what part_could answers -/
noncomputable def Cp (a : Abs) (h : Nat → Nat) (p s : Nat) : Bool := by
  classical exact decide (CouldP a h p s)
theorem cp_eq {a : Abs} (w : Wf a) {h : Nat → Nat} {p s : Nat} (hp : p < a.n) (hps : s ∉ a.near p ∨ ¬ Pt a p s s) :
    Cp a h p s = ((side a p s).all (fun q => decide (h p < h q)) && decide (((side a p s).map h).Nodup) && (side a p s).all fun q => Cp a h q p) := by
  rw [Bool.eq_iff_iff]
  unfold Cp
  simp only [Bool.and_eq_true, List.all_eq_true, decide_eq_true_eq]
  rw [could_step w hp hps, nodup_map_iff (side_nodup a p s)]
  exact ⟨fun ⟨c1, c2, c3⟩ => ⟨⟨c1, c2⟩, c3⟩, fun ⟨⟨c1, c2⟩, c3⟩ => ⟨c1, c2, c3⟩⟩
theorem side_ok {a : Abs} (w : Wf a) {p s q : Nat} (hp : p < a.n) (h : q ∈ side a p s) : p ∉ a.near q ∨ ¬ Pt a q p p :=
  .inr (pt_src w (near_symm hp (mem_side.mp h).1) (near_lt (mem_side.mp h).1))
theorem could_eq {a : Abs} (w : Wf a) {p : Nat} {t : List Nat} (hp : p < a.n) (ht : t.length = a.n) : a.could p t = (decide (t.getD p 0 = 0) && Cp a (fun q => t.getD q 0) p p) := by
  unfold Abs.could
  rw [Bool.eq_iff_iff]
  unfold Cp
  simp only [Bool.and_eq_true, List.all_eq_true, decide_eq_true_eq, beq_iff_eq, ht, true_and]
  refine and_congr_right fun _ => ?_
  have al : ∀ {x}, x < a.n → Pt a p p x := fun hx => ⟨hx, fun c => by have := c.1; omega, fun c => by have := c.1; omega⟩
  constructor
  · intro C q hq hqp r hr hrp
    have hqn := hq.1
    have c := C q (List.mem_filter.mpr ⟨List.mem_range.mpr hqn, bne_iff_ne.mpr hqp⟩)
    rw [(caller_iff w hp hqn hqp).mpr ⟨hr, hrp⟩] at c
    simp only [Bool.and_eq_true, List.all_eq_true, decide_eq_true_eq] at c
    refine ⟨c.1, fun x hx hxp hxq hrx hxp' => ?_⟩
    have c2 := c.2 x (List.mem_filter.mpr ⟨List.mem_range.mpr hx.1, ?_⟩)
    · exact bne_iff_ne.mp c2
    · simp only [Bool.and_eq_true, bne_iff_ne, beq_iff_eq]
      exact ⟨hxp, hxq, (caller_iff w hp hx.1 hxp).mpr ⟨hrx, hxp'⟩⟩
  · intro C q hq
    obtain ⟨hqn, hqp⟩ := List.mem_filter.mp hq
    have hqn := List.mem_range.mp hqn
    have hqp : q ≠ p := bne_iff_ne.mp hqp
    obtain ⟨r, hr, hrp⟩ := teller w hp hqn hqp
    rw [(caller_iff w hp hqn hqp).mpr ⟨hr, hrp⟩]
    simp only [Bool.and_eq_true, List.all_eq_true, decide_eq_true_eq]
    obtain ⟨c1, c2⟩ := C q (al hqn) hqp r hr hrp
    refine ⟨c1, fun x hx => ?_⟩
    obtain ⟨hxn, hx⟩ := List.mem_filter.mp hx
    have hxn := List.mem_range.mp hxn
    simp only [Bool.and_eq_true, bne_iff_ne, beq_iff_eq] at hx
    obtain ⟨hxp, hxq, hc⟩ := hx
    obtain ⟨k1, k2⟩ := (caller_iff w hp hxn hxp).mp hc
    exact bne_iff_ne.mpr (c2 x (al hxn) hxp hxq k1 k2)
end TM
end
section
set_option Elab.async false
set_option linter.all false
namespace TM
open Su115

/-- a part that hangs off within another lies within it -/
theorem pt_nest {a : Abs} (w : Wf a) {r p z x : Nat} (hr : r < a.n) (hz : z < a.n) : x ∈ a.near z → Pt a r p x → ¬ Pt a z x p → ∀ y, Pt a z x y → Pt a r p y := by
  refine part_ind w (C := fun z x => x ∈ a.near z → Pt a r p x → ¬ Pt a z x p → ∀ y, Pt a z x y → Pt a r p y) (fun z x hz ih hx h1 h2 y hy => ?_) hz
  have hxn := h1.1
  have hzx := near_symm hz hx
  have hzp : z ≠ p := fun e => h2 (by rw [← e]; exact pt_self w hz)
  have h3 : Pt a r p z := pt_close w hr h1 hzx hzp
  by_cases e : y = z
  · rw [e]; exact h3
  · obtain ⟨z', k1, k2, k3⟩ := pt_cover w hz hy e
    exact ih z' (mem_side.mpr ⟨k1, k2⟩) (near_symm hz k1) h3 (fun h => h2 (pt_sub w hz k1 k2 h)) y k3
theorem di_src {a : Abs} (w : Wf a) {p s x : Nat} (hp : p < a.n) (h : Pt a p s x) : Di a p s x = some (a.far p x) := by
  rw [← far_di w hp h.1]
  by_cases e : x = p
  · rw [e, di_self w hp, di_self w hp]
  · obtain ⟨r, h1, h2, h3⟩ := pt_cover w hp h e
    rw [di_next w hp h1 h2 h3, di_next w hp h1 (Nat.ne_of_lt (near_lt h1)) h3]
/-- the first join -/
theorem far_first {a : Abs} (w : Wf a) {p r q : Nat} (hp : p < a.n) (hr : r ∈ a.near p) (h : Pt a r p q) : a.far p q = a.far r q + 1 := by
  have e := di_next w hp hr (Nat.ne_of_lt (near_lt hr)) h
  rw [far_di w hp h.1, di_src w (near_lt hr) h] at e
  exact Option.some.inj e
theorem far_zero {a : Abs} (w : Wf a) {p q : Nat} (hp : p < a.n) (hq : q < a.n) (h : a.far p q = 0) : q = p := by
  by_cases e : q = p
  · exact e
  · obtain ⟨r, h1, h2⟩ := teller w hp hq e
    have := far_back w hp hq h1 h2
    omega
theorem far_symm {a : Abs} (w : Wf a) : ∀ (d : Nat) {p q : Nat}, p < a.n → q < a.n → a.far p q = d → a.far q p = d
  | 0, p, q, hp, hq, h => by
    have := far_zero w hp hq h
    subst this
    exact far_self w hp
  | d + 1, p, q, hp, hq, h => by
    have hne : q ≠ p := fun e => by rw [e, far_self w hp] at h; cases h
    obtain ⟨r, h1, h2⟩ := teller w hp hq hne
    have e1 := far_back w hp hq h1 h2
    have ih := far_symm w d hp (near_lt h1) (by omega)
    rw [far_first w hq h1 h2, ih]
/-- the way leads by p -/
theorem far_add {a : Abs} (w : Wf a) {p r q : Nat} (hp : p < a.n) (hq : q < a.n) (hr : r ∈ a.near p) (hn : ¬ Pt a r p q) : ∀ (d x : Nat), Pt a r p x → a.far p x = d → a.far q x = a.far q p + a.far p x
  | 0, x, hx, e => by
    have := far_zero w hp hx.1 e
    subst this
    exact absurd hx (pt_src w (near_symm hp hr) (near_lt hr))
  | d + 1, x, hx, e => by
    have hxn := hx.1
    have hne : x ≠ p := fun z => by rw [z, far_self w hp] at e; cases e
    obtain ⟨y, h1, h2⟩ := teller w hp hxn hne
    have e1 := far_back w hp hxn h1 h2
    -- q is on the same side of x as p
    have hxq : q ≠ x := fun z => hn (by rw [z]; exact hx)
    have h3 : Pt a y x q := by
      obtain ⟨z, k1, _, k3⟩ := pt_cover w hxn (pt_all (p := x) hq) hxq
      by_cases ez : z = y
      · rw [← ez]; exact k3
      · exact absurd (pt_nest w (near_lt hr) (near_lt k1) (near_symm hxn k1) hx (fun h => ez (pt_apart w hxn k1 h1 h h2)) q k3) hn
    have e2 := far_back w hq hxn h1 h3
    by_cases eyp : y = p
    · subst eyp
      rw [e2, e1, far_self w hp]
    · have hy : Pt a r p y := pt_close w (near_lt hr) hx h1 eyp
      have ih := far_add w hp hq hr hn d y hy (by omega)
      omega
theorem between_iff {a : Abs} (w : Wf a) {p p' q r : Nat} (hp : p < a.n) (hq : q < a.n) (hr : r < a.n) (h1 : p' ∈ a.near p) (h2 : Pt a p' p q) : (a.far p r + a.far r q = a.far p q ↔ r = p ∨ a.far p' r + a.far r q = a.far p' q) := by
  have e1 := far_first w hp h1 h2
  have hp' := near_lt h1
  by_cases e : r = p
  · subst e
    simp only [true_or, iff_true, far_self w hr, Nat.zero_add]
  · obtain ⟨z, k1, _, k3⟩ := pt_cover w hp (pt_all (p := p) hr) e
    by_cases ez : z = p'
    · subst ez
      have e2 := far_first w hp k1 k3
      constructor
      · intro h; right; omega
      · rintro (h | h)
        · exact absurd h e
        · omega
    · have hnq : ¬ Pt a z p q := fun h => ez (pt_apart w hp k1 h1 h h2)
      have e3 := far_add w hp hq k1 hnq _ r k3 rfl
      rw [far_symm w _ hr hq rfl] at e3
      have e4 := far_symm w _ hp hq rfl
      have e5 : 0 < a.far p r := Nat.pos_of_ne_zero fun z => e (far_zero w hp hr z)
      -- from p' it is one more
      have e6 : a.far p' r = a.far p r + 1 := by
        have hn' : ¬ Pt a p' p r := fun h => ez (pt_apart w hp k1 h1 k3 h)
        have := far_first w hp' (near_symm hp h1) (show Pt a p p' r from (pt_both w hp h1 hr).resolve_right hn')
        exact this
      constructor
      · intro h; omega
      · rintro (h | h)
        · exact absurd h e
        · omega
end TM
end
section
set_option Elab.async false
set_option linter.all false
namespace TM
open Su115

/-! ### the way between two, as the program walks it -/
theorem mem_path {a : Abs} {p q r : Nat} : r ∈ a.path p q ↔ r < a.n ∧ a.far p r + a.far r q = a.far p q := by
  unfold Abs.path Abs.ps
  rw [List.mem_filter, List.mem_range, beq_iff_eq]
theorem path_sorted (a : Abs) (p q : Nat) : (a.path p q).Pairwise (· < ·) := (ps_sorted a).sublist List.filter_sublist
theorem path_nodup (a : Abs) (p q : Nat) : (a.path p q).Nodup := nodup_of_lt (path_sorted a p q)
theorem path_symm {a : Abs} (w : Wf a) {p q : Nat} (hp : p < a.n) (hq : q < a.n) : a.path p q = a.path q p := by
  unfold Abs.path
  refine List.filter_congr fun r hr => ?_
  have hr : r < a.n := List.mem_range.mp hr
  rw [Bool.eq_iff_iff, beq_iff_eq, beq_iff_eq, far_symm w _ hp hr rfl, far_symm w _ hr hq rfl, far_symm w _ hp hq rfl]
  constructor <;> intro h <;> omega
/-- whom the greater was joined to is next on the way to a lesser one -/
theorem par_way {a : Abs} (w : Wf a) {g m : Nat} (hg : g < a.n) (hm : m < g) : par a g ∈ a.near g ∧ Pt a (par a g) g m := by
  have h0 : 0 < g := by omega
  have hl := par_lt w h0 hg
  have c : Ch a (par a g) g := ⟨hl, hg, rfl⟩
  refine ⟨(mem_near hg).mpr (.inr c), by omega, fun z => ?_, fun _ z => ?_⟩
  · have := z.1
    omega
  · have := dsc_le w z
    omega
theorem path_step {a : Abs} (w : Wf a) {g m : Nat} (hg : g < a.n) (hm : m < g) : (a.path g m).Perm (g :: a.path (par a g) m) := by
  obtain ⟨h1, h2⟩ := par_way w hg hm
  have hmn : m < a.n := by omega
  have hp := near_lt h1
  refine (List.perm_ext_iff_of_nodup (path_nodup a g m) (List.nodup_cons.mpr ⟨fun h => ?_, path_nodup a _ m⟩)).mpr fun r => ?_
  · have e := (mem_path.mp h).2
    have := far_first w hg h1 h2
    omega
  · rw [mem_path, List.mem_cons, mem_path]
    constructor
    · rintro ⟨hr, e⟩
      rcases (between_iff w hg hmn hr h1 h2).mp e with z | z
      · exact .inl z
      · exact .inr ⟨hr, z⟩
    · rintro (z | ⟨hr, z⟩)
      · subst z
        exact ⟨hg, (between_iff w hg hmn hg h1 h2).mpr (.inl rfl)⟩
      · exact ⟨hr, (between_iff w hg hmn hr h1 h2).mpr (.inr z)⟩
theorem path_self {a : Abs} (w : Wf a) {p : Nat} (hp : p < a.n) : a.path p p = [p] := by
  have h : (a.path p p).Perm [p] := (List.perm_ext_iff_of_nodup (path_nodup a p p) (List.nodup_cons.mpr ⟨List.not_mem_nil, List.nodup_nil⟩)).mpr fun r => by
    rw [mem_path, List.mem_singleton, far_self w hp]
    constructor
    · rintro ⟨hr, e⟩
      exact far_zero w hp hr (by omega)
    · intro e
      subst e
      rw [far_self w hp]
      exact ⟨hp, rfl⟩
  exact List.perm_singleton.mp h
/-- one more of the way -/
theorem path_any {a : Abs} (w : Wf a) {x y : Nat} (hx : x < a.n) (hy : y < a.n) (h : x ≠ y) : (a.path x y).Perm (max x y :: a.path (par a (max x y)) (min x y)) := by
  by_cases l : x < y
  · rw [path_symm w hx hy, show max x y = y by omega, show min x y = x by omega]
    exact path_step w hy l
  · rw [show max x y = x by omega, show min x y = y by omega]
    exact path_step w hx (by omega)
theorem path_len {a : Abs} (w : Wf a) : ∀ (k x y : Nat), x + y ≤ k → x < a.n → y < a.n → (a.path x y).length = a.far x y + 1
  | k, x, y, hk, hx, hy => by
    by_cases e : x = y
    · subst e
      rw [path_self w hx, far_self w hx]
      rfl
    · have hg : max x y < a.n := by omega
      have hlt : min x y < max x y := by omega
      have hl := par_lt w (show 0 < max x y by omega) hg
      obtain ⟨h1, h2⟩ := par_way w hg hlt
      have ef : a.far x y = a.far (max x y) (min x y) := by
        by_cases l : x < y
        · rw [show max x y = y by omega, show min x y = x by omega]
          exact far_symm w _ hy hx rfl
        · rw [show max x y = x by omega, show min x y = y by omega]
      match k, hk with
      | 0, hk => omega
      | k + 1, hk =>
        rw [(path_any w hx hy e).length_eq, List.length_cons, path_len w k _ _ (by omega) (near_lt h1) (by omega), ef, far_first w hg h1 h2]
theorem path_len_le (a : Abs) (x y : Nat) : (a.path x y).length ≤ a.n := Nat.le_trans (List.length_filter_le _ _) (by unfold Abs.ps; rw [List.length_range]; exact Nat.le_refl _)
/-- what is sorted from a reordering of a rising list is that list -/
theorem sorted_cast {l : List Nat} (h : l.Pairwise (· < ·)) {m : List Nat} (p : m.Perm l) {ns : List Int} (hp : ns.Perm (m.map fun (n : Nat) => (n : Int))) (hs : ns.Pairwise (· ≤ ·)) : ns = l.map fun (n : Nat) => (n : Int) := by
  refine List.Perm.eq_of_pairwise (le := (· ≤ ·)) (fun x y _ _ h1 h2 => by omega) hs ?_ (hp.trans (p.map _))
  refine List.pairwise_map.mpr (h.imp fun {r q} h => ?_)
  omega

/-! ### the least -/
theorem least_le : ∀ (l : List Nat) (b : Nat), l.foldl min b ≤ b ∧ ∀ y ∈ l, l.foldl min b ≤ y
  | [], b => ⟨Nat.le_refl _, fun y hy => by cases hy⟩
  | x :: l, b => by
    rw [List.foldl_cons]
    obtain ⟨h1, h2⟩ := least_le l (min b x)
    refine ⟨by omega, fun y hy => ?_⟩
    rcases List.mem_cons.mp hy with e | hy
    · rw [e]; omega
    · exact h2 y hy
theorem least_in : ∀ (l : List Nat) (b : Nat), l.foldl min b = b ∨ l.foldl min b ∈ l
  | [], b => .inl rfl
  | x :: l, b => by
    rw [List.foldl_cons]
    rcases least_in l (min b x) with h | h
    · rw [h]
      by_cases e : b ≤ x
      · exact .inl (by omega)
      · exact .inr (by rw [show min b x = x by omega]; exact List.mem_cons_self)
    · exact .inr (List.mem_cons_of_mem _ h)
theorem least_of {l : List Nat} {b : Nat} {m : Int} (hb : ∀ x ∈ l, x ≤ b) (h1 : m ∈ l.map fun (n : Nat) => (n : Int)) (h2 : ∀ y ∈ l.map fun (n : Nat) => (n : Int), m ≤ y) : m = ((l.foldl min b : Nat) : Int) := by
  obtain ⟨x, hx, rfl⟩ := List.mem_map.mp h1
  have h3 := (least_le l b).2 x hx
  have h4 : x ≤ l.foldl min b := by
    rcases least_in l b with h | h
    · rw [h]; exact hb x hx
    · have := h2 _ (List.mem_map.mpr ⟨_, h, rfl⟩)
      omega
  omega
/-! ### no part needs more hours than it has people -/
theorem after_le {c : Nat} : ∀ (l : List Nat) (k : Nat), (∀ x ∈ l, x ≤ c) → after l k ≤ c + (k + l.length)
  | [], k, _ => Nat.zero_le _
  | x :: l, k, h => by
    show max (x + k) (after l (k + 1)) ≤ _
    have h1 := h x List.mem_cons_self
    have h2 := after_le l (k + 1) fun y hy => h y (List.mem_cons_of_mem _ hy)
    rw [List.length_cons]
    omega
end TM
end
section
set_option Elab.async false
set_option linter.all false
namespace TM
open Su115

/-! ### all know in fewer hours than there are people -/
theorem after_sum {h z : Nat → Nat} : ∀ (l : List Nat) (k : Nat), 1 ≤ k → (∀ q ∈ l, h q + 1 ≤ z q) → after (l.map h) k ≤ (l.map z).sum + (k - 1)
  | [], k, _, _ => Nat.zero_le _
  | x :: l, k, hk, hz => by
    show max (h x + k) (after (l.map h) (k + 1)) ≤ (z x :: l.map z).sum + (k - 1)
    have h1 := hz x List.mem_cons_self
    have h2 := after_sum (h := h) (z := z) l (k + 1) (by omega) fun y hy => hz y (List.mem_cons_of_mem _ hy)
    rw [List.sum_cons]
    omega
theorem hr_lt {a : Abs} (w : Wf a) {p s : Nat} (hp : p < a.n) : Hr a p s + 1 ≤ Sz a p s := by
  refine part_ind w (C := fun p s => Hr a p s + 1 ≤ Sz a p s) (fun p s hp ih => ?_) hp
  have e := after_sum (h := fun q => Hr a q p) (z := fun q => Sz a q p) (a.order p s) 1 (Nat.le_refl _) fun q hq => ih q ((order_perm a p s).mem_iff.mp hq)
  have e2 : ((a.order p s).map fun q => Sz a q p).sum = ((side a p s).map fun q => Sz a q p).sum := ((order_perm a p s).map _).sum_nat
  rw [hr_order w hp, sz_eq w hp]
  omega
theorem few {l : List Nat} {n : Nat} (nd : l.Nodup) (h : ∀ x ∈ l, x < n) : l.length ≤ n := by
  have p : l.Perm ((List.range n).filter fun x => decide (x ∈ l)) := (List.perm_ext_iff_of_nodup nd (nodup_of_lt (List.pairwise_lt_range.sublist List.filter_sublist))).mpr fun x => by
    rw [List.mem_filter, List.mem_range, decide_eq_true_eq]
    exact ⟨fun z => ⟨h x z, z⟩, fun z => z.2⟩
  rw [p.length_eq]
  exact Nat.le_trans (List.length_filter_le _ _) (by rw [List.length_range]; exact Nat.le_refl _)
theorem sz_le {a : Abs} (w : Wf a) {p s : Nat} (hp : p < a.n) : Sz a p s ≤ a.n := by
  unfold Sz
  have := few (pl_nodup w (s := s) hp 0) fun x hx => by
    obtain ⟨z, hz, rfl⟩ := List.mem_map.mp hx
    exact (pl_keys w hp 0 z hz).1
  rwa [List.length_map] at this
theorem from_lt {a : Abs} (w : Wf a) {p : Nat} (hp : p < a.n) : a.from_ p < a.n := by
  have h1 := hr_lt w (s := a.n) hp
  have h2 := sz_le w (s := a.n) hp
  show Hr a p a.n < a.n
  omega
end TM
end
section
set_option Elab.async false
set_option linter.all false
set_option maxRecDepth 10000
set_option maxHeartbeats 2000000
namespace NM
open Su115 (Abs Call)
/-- how many whole numbers a call has, by its number -/
def NUM : List Int := [0, 1, 0, 1, 1, 2, 1, 2, 2, 2, 2, 1, 2, 0, 0, 1, 0, 0]
/-- a call's number, its numbers (a row behind its length), the call -/
inductive Dec : Nat → List Int → Call → Prop
  | begin_ : Dec 0 [] .begin_
  | join (a : Nat) : Dec 1 [(a : Int)] (.join a)
  | drop : Dec 2 [] .drop
  | hours (a : Nat) : Dec 3 [(a : Int)] (.hours a)
  | plan (a : Nat) : Dec 4 [(a : Int)] (.plan a)
  | order (a b : Nat) : Dec 5 [(a : Int), (b : Int)] (.order a b)
  | could (a : Nat) (l : List Nat) : l.length ≤ 16 → Dec 6 ((a : Int) :: (l.length : Int) :: l.map fun (n : Nat) => (n : Int)) (.could a l)
  | by_ (a b : Nat) : Dec 7 [(a : Int), (b : Int)] (.by_ a b)
  | part (a b : Nat) : Dec 8 [(a : Int), (b : Int)] (.part a b)
  | far (a b : Nat) : Dec 9 [(a : Int), (b : Int)] (.far a b)
  | between (a b : Nat) : Dec 10 [(a : Int), (b : Int)] (.between a b)
  | first (a : Nat) : Dec 11 [(a : Int)] (.first a)
  | more (a b : Nat) : Dec 12 [(a : Int), (b : Int)] (.more a b)
  | least : Dec 13 [] .least
  | all : Dec 14 [] .all
  | near (a : Nat) : Dec 15 [(a : Int)] (.near a)
  | ends : Dec 16 [] .ends
  | state : Dec 17 [] .state
/-- what is answered, as a list -/
def outL (r : Option Abs × Su115.Ans) : List Int := r.2.value :: Su115Neutral.outs r.2.out
def stepC (s : Option Abs) (c : List (List Int)) : Option Abs × List Int := Su115Neutral.step s ((PySu115.whole c).headD [])
def run (s : Option Abs) (cs : List (List (List Int))) : List Int := PyFlat.told (PyFlat.played stepC s cs)
theorem run_cons (s : Option Abs) (c : List (List Int)) (cs : List (List (List Int))) : run s (c :: cs) = (((stepC s c).2.length : Nat) : Int) :: (stepC s c).2 ++ run (stepC s c).1 cs := rfl
theorem played_map (s : Option Abs) : ∀ cs : List (List (List Int)), PyFlat.played (fun s c => Su115Neutral.step s (c.headD [])) s (cs.map PySu115.whole) = PyFlat.played stepC s cs := by
  intro cs
  induction cs generalizing s with
  | nil => rfl
  | cons c cs ih => exact congrArg _ (ih _)
theorem answers_run {l : List Int} {raw : List (List (List Int))} (h : PyFlat.calls PySu115.shape l.length l = some raw) : PySu115.answers l = run none raw := by
  unfold PySu115.answers PySu115.calls
  rw [h]
  show PyFlat.told (PyFlat.played (fun s c => Su115Neutral.step s (c.headD [])) Su115Neutral.start (raw.map PySu115.whole)) = _
  rw [played_map]
  rfl
/-- one call of the list, read -/
structure Read1 (l : List Int) (f : Nat) (raw : List (List (List Int))) : Prop where
  ex : ∃ (p : Nat) (args rest : List Int) (x : Call) (c : List (List Int)) (raw' : List (List (List Int))) (f' : Nat), l = (p : Int) :: (args ++ rest) ∧ Dec p args x ∧ raw = c :: raw' ∧ PyFlat.calls PySu115.shape f' rest = some raw' ∧
    ∀ s, stepC s c = ((Su115.step s x).1, outL (Su115.step s x))
theorem nat_of {z : Int} (h : 0 ≤ z) : ∃ n : Nat, z = (n : Int) := ⟨z.toNat, by omega⟩
theorem nats_of : ∀ {l : List Int}, (∀ z ∈ l, 0 ≤ z) → ∃ m : List Nat, l = m.map fun (n : Nat) => (n : Int)
  | [], _ => ⟨[], rfl⟩
  | z :: l, h => by
    obtain ⟨n, e⟩ := nat_of (h z List.mem_cons_self)
    obtain ⟨m, e2⟩ := nats_of fun y hy => h y (List.mem_cons_of_mem _ hy)
    exact ⟨n :: m, by rw [e, e2]; rfl⟩
theorem map_toNat (m : List Nat) : (m.map fun (n : Nat) => (n : Int)).map Int.toNat = m := by
  rw [List.map_map]
  conv => rhs; rw [← List.map_id m]
  rfl
/-- what is asked of the calls, one by one -/
def OkC (c : List (List Int)) : Prop := PyInside.call PySu115.bound c = true
theorem calls_cons {f : Nat} {p : Int} {r : List Int} {raw : List (List (List Int))} (h : PyFlat.calls PySu115.shape f (p :: r) = some raw) : ∃ f' c t raw', PyFlat.call PySu115.shape (p :: r) = some (c, t) ∧ PyFlat.calls PySu115.shape f' t = some raw' ∧ raw = c :: raw' := by
  match f, h with
  | 0, h => cases h
  | f + 1, h =>
    unfold PyFlat.calls at h
    cases e : PyFlat.call PySu115.shape (p :: r) with
    | none => rw [e] at h; cases h
    | some z =>
      obtain ⟨c, t⟩ := z
      rw [e] at h
      dsimp only at h
      cases e2 : PyFlat.calls PySu115.shape f t with
      | none => rw [e2] at h; cases h
      | some raw' =>
        rw [e2] at h
        exact ⟨f, c, t, raw', rfl, e2, (Option.some.inj h).symm⟩
theorem call_n {p : Int} {r : List Int} {n : Nat} {c : List (List Int)} {t : List Int} (hs : PySu115.shape p = some (n, 0)) (h : PyFlat.call PySu115.shape (p :: r) = some (c, t)) : n ≤ r.length ∧ c = [p :: r.take n] ∧ t = r.drop n := by
  unfold PyFlat.call at h
  dsimp only at h
  rw [hs] at h
  dsimp only at h
  by_cases hl : r.length < n
  · rw [if_pos hl] at h; cases h
  · rw [if_neg hl] at h
    have h : some ([p :: r.take n], r.drop n) = some (c, t) := h
    have e := Option.some.inj h
    exact ⟨by omega, (congrArg Prod.fst e).symm, (congrArg Prod.snd e).symm⟩
theorem take1 {r : List Int} (h : 1 ≤ r.length) : ∃ x, r.take 1 = [x] ∧ r = x :: r.drop 1 := by
  match r, h with
  | x :: r, _ => exact ⟨x, rfl, rfl⟩
theorem take2 {r : List Int} (h : 2 ≤ r.length) : ∃ x y, r.take 2 = [x, y] ∧ r = x :: y :: r.drop 2 := by
  match r, h with
  | x :: y :: r, _ => exact ⟨x, y, rfl, rfl⟩
theorem call_6 {r : List Int} {c : List (List Int)} {t : List Int} (h : PyFlat.call PySu115.shape (6 :: r) = some (c, t)) : ∃ (x m : Int) (rest : List Int), r = x :: m :: rest ∧ 0 ≤ m ∧ m.toNat ≤ rest.length ∧ c = [[6, x], rest.take m.toNat] ∧ t = rest.drop m.toNat := by
  unfold PyFlat.call at h
  dsimp only at h
  rw [show PySu115.shape 6 = some (1, 1) from rfl] at h
  dsimp only at h
  match r, h with
  | [], h => simp at h
  | [x], h =>
    rw [if_neg (by simp)] at h
    have h : (none : Option (List (List Int) × List Int)) = some (c, t) := h
    cases h
  | x :: m :: rest, h =>
    rw [if_neg (by simp)] at h
    have h : (match PyFlat.rows 1 (m :: rest) with | none => none | some (xs, t) => some ((6 :: [x]) :: xs, t)) = some (c, t) := h
    unfold PyFlat.rows PyFlat.row at h
    dsimp only at h
    by_cases hm : 0 ≤ m ∧ m.toNat ≤ rest.length
    · rw [if_pos hm] at h
      have h : some ([[6, x], rest.take m.toNat], rest.drop m.toNat) = some (c, t) := h
      have e := Option.some.inj h
      exact ⟨x, m, rest, rfl, hm.1, hm.2, (congrArg Prod.fst e).symm, (congrArg Prod.snd e).symm⟩
    · rw [if_neg hm] at h
      cases h
theorem shape_le {p : Int} {z : Nat × Nat} (h : PySu115.shape p = some z) : ∃ n : Nat, n < 18 ∧ p = (n : Int) := by
  unfold PySu115.shape at h
  by_cases hp : 0 ≤ p ∧ p < 18
  · exact ⟨p.toNat, by omega, by omega⟩
  · exfalso
    repeat rw [if_neg (by omega)] at h
    cases h
theorem read1 {p : Int} {r : List Int} {f : Nat} {raw : List (List (List Int))} (h : PyFlat.calls PySu115.shape f (p :: r) = some raw) (hz : ∀ z ∈ p :: r, 0 ≤ z) (ok : ∀ c ∈ raw, OkC c) : Read1 (p :: r) f raw := by
  obtain ⟨f', c, t, raw', hc, ht, rfl⟩ := calls_cons h
  have hzr : ∀ z ∈ r, 0 ≤ z := fun z m => hz z (List.mem_cons_of_mem _ m)
  obtain ⟨n, hn, rfl⟩ : ∃ n : Nat, n < 18 ∧ p = (n : Int) := by
    cases e : PySu115.shape p with
    | none =>
      unfold PyFlat.call at hc
      dsimp only at hc
      rw [e] at hc
      cases hc
    | some z => exact shape_le e
  have z0 : ∀ {k : Nat} {x : Call}, PySu115.shape (k : Int) = some (0, 0) → PyFlat.call PySu115.shape ((k : Int) :: r) = some (c, t) → Dec k [] x → (∀ s, stepC s [[(k : Int)]] = ((Su115.step s x).1, outL (Su115.step s x))) → Read1 ((k : Int) :: r) f (c :: raw') := by
    intro k x hs hc hd hst
    obtain ⟨_, e1, e2⟩ := call_n hs hc
    refine ⟨k, [], r, x, c, raw', f', rfl, hd, rfl, ?_, ?_⟩
    · rw [← ht, e2]; rfl
    · rw [e1]; exact hst
  have z1 : ∀ {k : Nat} {x : Nat → Call}, PySu115.shape (k : Int) = some (1, 0) → PyFlat.call PySu115.shape ((k : Int) :: r) = some (c, t) → (∀ a : Nat, Dec k [(a : Int)] (x a)) → (∀ (a : Nat) s, stepC s [[(k : Int), (a : Int)]] = ((Su115.step s (x a)).1, outL (Su115.step s (x a)))) → Read1 ((k : Int) :: r) f (c :: raw') := by
    intro k x hs hc hd hst
    obtain ⟨hl, e1, e2⟩ := call_n hs hc
    obtain ⟨y, t1, t2⟩ := take1 hl
    obtain ⟨a, rfl⟩ := nat_of (hzr y (by rw [t2]; exact List.mem_cons_self))
    refine ⟨k, [(a : Int)], r.drop 1, x a, c, raw', f', by rw [List.singleton_append, ← t2], hd a, rfl, ?_, ?_⟩
    · rw [← ht, e2]
    · rw [e1, t1]; exact hst a
  have z2 : ∀ {k : Nat} {x : Nat → Nat → Call}, PySu115.shape (k : Int) = some (2, 0) → PyFlat.call PySu115.shape ((k : Int) :: r) = some (c, t) → (∀ a b : Nat, Dec k [(a : Int), (b : Int)] (x a b)) → (∀ (a b : Nat) s, stepC s [[(k : Int), (a : Int), (b : Int)]] = ((Su115.step s (x a b)).1, outL (Su115.step s (x a b)))) → Read1 ((k : Int) :: r) f (c :: raw') := by
    intro k x hs hc hd hst
    obtain ⟨hl, e1, e2⟩ := call_n hs hc
    obtain ⟨y, y2, t1, t2⟩ := take2 hl
    obtain ⟨a, rfl⟩ := nat_of (hzr y (by rw [t2]; exact List.mem_cons_self))
    obtain ⟨b, rfl⟩ := nat_of (hzr y2 (by rw [t2]; exact List.mem_cons_of_mem _ List.mem_cons_self))
    refine ⟨k, [(a : Int), (b : Int)], r.drop 2, x a b, c, raw', f', by rw [List.cons_append, List.singleton_append, ← t2], hd a b, rfl, ?_, ?_⟩
    · rw [← ht, e2]
    · rw [e1, t1]; exact hst a b
  match n, hn, hc with
  | 0, _, hc => exact z0 (k := 0) rfl hc .begin_ fun s => rfl
  | 1, _, hc => exact z1 (k := 1) (x := .join) rfl hc .join fun a s => rfl
  | 2, _, hc => exact z0 (k := 2) rfl hc .drop fun s => rfl
  | 3, _, hc => exact z1 (k := 3) (x := .hours) rfl hc .hours fun a s => rfl
  | 4, _, hc => exact z1 (k := 4) (x := .plan) rfl hc .plan fun a s => rfl
  | 5, _, hc => exact z2 (k := 5) (x := .order) rfl hc .order fun a b s => rfl
  | 6, _, hc =>
    obtain ⟨x, m, rest, rfl, h1, h2, e1, e2⟩ := call_6 (show PyFlat.call PySu115.shape (6 :: r) = some (c, t) from hc)
    obtain ⟨a, rfl⟩ := nat_of (hzr x List.mem_cons_self)
    obtain ⟨m, rfl⟩ := nat_of h1
    obtain ⟨l, el⟩ := nats_of (l := rest.take m) fun z hz' => hzr z (List.mem_cons_of_mem _ (List.mem_cons_of_mem _ (List.mem_of_mem_take hz')))
    have hm : m ≤ rest.length := by simpa using h2
    have ll : l.length = m := by
      have := congrArg List.length el
      rw [List.length_map, List.length_take] at this
      omega
    have o := ok c List.mem_cons_self
    unfold OkC at o
    rw [e1] at o
    have o2 : (PyInside.each [(0, 4294967295)] [(a : Int)] && PyInside.lists [(0, 4294967295, 0, 16)] [rest.take ((m : Int)).toNat]) = true := o
    rw [Bool.and_eq_true] at o2
    have o3 := o2.2
    unfold PyInside.lists at o3
    simp only [Bool.and_eq_true, decide_eq_true_eq] at o3
    have l16 : l.length ≤ 16 := by
      have := o3.1.1.2
      rw [List.length_take] at this
      have e : ((m : Int)).toNat = m := by simp
      rw [e] at this
      omega
    refine ⟨6, (a : Int) :: (l.length : Int) :: l.map (fun (n : Nat) => (n : Int)), rest.drop m, .could a l, c, raw', f', ?_, .could a l l16, rfl, ?_, ?_⟩
    · show (6 : Int) :: (a : Int) :: (m : Int) :: rest = 6 :: ((a : Int) :: (l.length : Int) :: l.map (fun (n : Nat) => (n : Int)) ++ rest.drop m)
      rw [List.cons_append, List.cons_append, ← el, List.take_append_drop, ll]
    · rw [← ht, e2]; rfl
    · intro s
      rw [e1]
      have e : rest.take ((m : Int)).toNat = l.map fun (n : Nat) => (n : Int) := by rw [← el]; rfl
      rw [e]
      show Su115Neutral.step s (6 :: (a : Int) :: l.map fun (n : Nat) => (n : Int)) = _
      unfold Su115Neutral.step
      have : Su115Neutral.callOf (6 :: (a : Int) :: l.map fun (n : Nat) => (n : Int)) = some (.could a l) := by
        show some (Call.could ((a : Int)).toNat ((l.map fun (n : Nat) => (n : Int)).map Int.toNat)) = _
        rw [map_toNat]
        rfl
      rw [this]
      rfl
  | 7, _, hc => exact z2 (k := 7) (x := .by_) rfl hc .by_ fun a b s => rfl
  | 8, _, hc => exact z2 (k := 8) (x := .part) rfl hc .part fun a b s => rfl
  | 9, _, hc => exact z2 (k := 9) (x := .far) rfl hc .far fun a b s => rfl
  | 10, _, hc => exact z2 (k := 10) (x := .between) rfl hc .between fun a b s => rfl
  | 11, _, hc => exact z1 (k := 11) (x := .first) rfl hc .first fun a s => rfl
  | 12, _, hc => exact z2 (k := 12) (x := .more) rfl hc .more fun a b s => rfl
  | 13, _, hc => exact z0 (k := 13) rfl hc .least fun s => rfl
  | 14, _, hc => exact z0 (k := 14) rfl hc .all fun s => rfl
  | 15, _, hc => exact z1 (k := 15) (x := .near) rfl hc .near fun a s => rfl
  | 16, _, hc => exact z0 (k := 16) rfl hc .ends fun s => rfl
  | 17, _, hc => exact z0 (k := 17) rfl hc .state fun s => rfl
  | n + 18, hn, _ => omega
theorem asked_raw {l : List Int} (h : PySu115.answers_asked l = true) : ∃ raw, PyFlat.calls PySu115.shape l.length l = some raw ∧ (∀ c ∈ raw, OkC c) ∧ (PySu115.answers l).length ≤ 10000000 := by
  unfold PySu115.answers_asked at h
  cases e : PyFlat.calls PySu115.shape l.length l with
  | none => rw [e] at h; cases h
  | some raw =>
    rw [e] at h
    simp only [Bool.and_eq_true] at h
    refine ⟨raw, rfl, fun c hc => ?_, ?_⟩
    · exact List.all_eq_true.mp h.1.1.2 c hc
    · exact of_decide_eq_true h.2
end NM
end
section
set_option Elab.async false
set_option linter.all false
set_option maxRecDepth 100000
set_option maxHeartbeats 2000000
namespace NT
open PySem PySem.Spec PyProof.Rows L2
open Su115 (Abs)
open TM
/-! ### the text by places -/
def top (i : Nat) : Stmt := PySem.Challenge.pw_newstree_s01_answers.main.body.getD i (.Pass ⟨0, 0, 0, 0⟩)
abbrev sJn : Stmt := top 2
abbrev sSide : Stmt := top 3
/-! ### data -/
def I (n : Nat) : V := V.int (n : Int)
/-- joined, as a list -/
def jv (a : Abs) : List V := V.int (-1) :: a.up.map I
theorem jv_len (a : Abs) : (jv a).length = a.n := by unfold jv Abs.n; rw [List.length_cons, List.length_map]
def upI (a : Abs) (p : Nat) : Int := if p = 0 then -1 else (par a p : Nat)
theorem jv_at {a : Abs} {p : Nat} (h : p < a.n) : (jv a)[p]? = some (V.int (upI a p)) := by
  unfold upI
  match p, h with
  | 0, _ => rfl
  | p + 1, h =>
    have hl : p < a.up.length := by unfold Abs.n at h; omega
    unfold jv par
    rw [List.getElem?_cons_succ, List.getElem?_map, List.getElem?_eq_getElem hl, if_neg (Nat.succ_ne_zero p), Nat.add_sub_cancel, List.getD_eq_getElem?_getD, List.getElem?_eq_getElem hl]
    rfl
theorem near_upI {a : Abs} (w : Wf a) {p q : Nat} (hp : p < a.n) (hq : q < a.n) : q ∈ a.near p ↔ upI a p = (q : Int) ∨ upI a q = (p : Int) := by
  rw [mem_near hp]
  unfold upI Ch
  constructor
  · rintro (⟨h1, h2, h3⟩ | ⟨h1, h2, h3⟩)
    · right; rw [if_neg (by omega), h3]
    · left; rw [if_neg (by omega), h3]
  · rintro (h | h)
    · by_cases h0 : p = 0
      · rw [if_pos h0] at h; omega
      · rw [if_neg h0] at h
        have := par_lt w (by omega : 0 < p) hp
        exact .inr ⟨by omega, hp, by omega⟩
    · by_cases h0 : q = 0
      · rw [if_pos h0] at h; omega
      · rw [if_neg h0] at h
        have := par_lt w (by omega : 0 < q) hq
        exact .inl ⟨by omega, hq, by omega⟩
/-- the people stand in the list at j -/
structure JAt (H : Hp) (j : Addr) (a : Abs) : Prop where
  lst : H j = some (.lst (jv a))
  wf : Wf a
  le : a.n ≤ 14
theorem JAt.same {H H' : Hp} {j : Addr} {a : Abs} (h : JAt H j a) (s : Same H H') : JAt H' j a := ⟨s _ _ h.lst, h.wf, h.le⟩
theorem same_new {H : Hp} {p : Addr} (h : H p = none) (o : HO) : Same H (upd H p o) := fun b u q => by rw [upd_ne (ne_of_none q h)]; exact q
/-! ### promises -/
def spJn : Sp := fun vs H Q _ => ∃ (j : Addr) (a : Abs) (p q : Nat), vs = [.ref j, I p, I q] ∧ JAt H j a ∧ p < a.n ∧ q < a.n ∧ Q (.bl (decide (q ∈ a.near p))) H
/-- a new list of people, all else as it was -/
def newL (H : Hp) (Q : VK) (l : List Nat) : Prop := ∀ (H' : Hp) (r : Addr), Same H H' → H r = none → H' r = some (.lst (l.map I)) → Q (.ref r) H'
def spSide : Sp := fun vs H Q _ => ∃ (j : Addr) (a : Abs) (p t : Nat), vs = [.ref j, I p, I t] ∧ JAt H j a ∧ p < a.n ∧ newL H Q (side a p t)
section
variable {P : Program} {w : World} {K : PySem.W.Frag} {mg : Str → Option Value} {base : Heap}
theorem scJn : FnScope ["joined", "one", "other"] ["joined", "one", "other"] (defScope sJn) := ⟨rfl, rfl, rfl, by decide +kernel, rfl, by decide +kernel, by decide +kernel⟩
theorem ok_jn {f : Addr} {fd : FuncData} (F : Fun K "are_joined" "are_joined" sJn f fd) : FnOk P w K mg base CX0 1 f fd ["joined", "one", "other"] spJn := by
  refine F.ok scJn (fun vs H Q E h => ?_) (fun cdv A outer s H vs Q E hr h => ?_)
  · obtain ⟨j, a, p, q, rfl, _⟩ := h
    rfl
  · obtain ⟨j, a, p, q, rfl, hj, hp, hq, k⟩ := h
    refine ⟨_, pss_one (ps_ret (pe_or (pe_cmpR op_eq (pe_ix ix_list (pv 0) (pv 1) (fun _ _ => rfl)) (pv 2) (nomark _)) (pe_one (pe_cmpR op_eq (pe_ix ix_list (pv 0) (pv 2) (fun _ _ => rfl)) (pv 1) (nomark _))))), ?_⟩
    refine ⟨_, rfl, _, rfl, j, _, _, _, rfl, rfl, SqL.of hj.lst, atI_nat (jv_at hp), _, rfl, rfl, _, rfl, ?_⟩
    refine ite2 (fun c => ?_) (fun c => ?_)
    · have c' : V.int (upI a p) = I q := of_decide_eq_true c
      have e : upI a p = (q : Int) := V.int.inj c'
      have := decide_eq_true ((near_upI hj.wf hp hq).mpr (.inl e))
      rw [this] at k
      exact k
    · have c' : ¬ V.int (upI a p) = I q := of_decide_eq_false (Bool.eq_false_iff.mpr c)
      refine ⟨_, rfl, _, rfl, j, _, _, _, rfl, rfl, SqL.of hj.lst, atI_nat (jv_at hq), _, rfl, rfl, ?_⟩
      have e : decide (q ∈ a.near p) = decide (V.int (upI a q) = I p) := by
        rw [Bool.eq_iff_iff, decide_eq_true_eq, decide_eq_true_eq, near_upI hj.wf hp hq]
        exact ⟨fun h => congrArg V.int (h.resolve_left fun z => c' (congrArg V.int z)), fun h => .inr (V.int.inj h)⟩
      rw [e] at k
      exact k
end
end NT
end
section
set_option Elab.async false
set_option linter.all false
set_option maxRecDepth 100000
set_option maxHeartbeats 2000000
namespace NT
open PySem PySem.Spec PyProof.Rows L2
open Su115 (Abs)
open TM
/-- which of Python's own names the text leaves as they are -/
structure Bt (mg : Str → Option Value) : Prop where
  len : mg "len" = none
  range : mg "range" = none
  sum : mg "sum" = none
  sorted : mg "sorted" = none
  enumerate : mg "enumerate" = none
  max : mg "max" = none
  min : mg "min" = none
  set : mg "set" = none
  all : mg "all" = none
/-- a def as it stands: its promise, how it binds, that it's kept, its name -/
structure Df (P : Program) (w : World) (K : PySem.W.Frag) (mg : Str → Option Value) (base : Heap) (x : Str) (ps : List Str) (k : Nat) (sp : Sp) : Prop where
  ex : ∃ (f : Addr) (fd : FuncData), FnOk P w K mg base CX0 k f fd ps sp ∧ Binds K fd ps [] ∧ PySem.W.keepIn K (.ref f) = true ∧ mg x = some (.ref f)
section
variable {P : Program} {w : World} {K : PySem.W.Frag} {mg : Str → Option Value} {base : Heap}
theorem sized {n : Nat} (h : n ≤ 14) : n < sizeLine := small1000 (by omega)
theorem scSide : FnScope ["joined", "person", "teller", "other"] ["joined", "person", "teller"] (defScope sSide) := ⟨rfl, rfl, rfl, by decide +kernel, rfl, by decide +kernel, by decide +kernel⟩
theorem _root_.L2.Same.grow {H H' : Hp} {D : Addr} {o : HO} (s : Same H H') (h : H D = none) : Same H (upd H' D o) := fun b u q => by
  rw [upd_ne (ne_of_none q h)]
  exact s b u q
/-- side, as far as i -/
def sideTo (a : Abs) (p t i : Nat) : List Nat := (List.range i).filter fun q => decide (q ≠ t) && decide (q ∈ a.near p)
theorem sideTo_succ (a : Abs) (p t i : Nat) : sideTo a p t (i + 1) = sideTo a p t i ++ (if (decide (i ≠ t) && decide (i ∈ a.near p)) = true then [i] else []) := by
  unfold sideTo
  rw [List.range_succ, List.filter_append]
  by_cases h : (decide (i ≠ t) && decide (i ∈ a.near p)) = true
  · rw [if_pos h, List.filter_cons, if_pos h, List.filter_nil]
  · rw [if_neg h, List.filter_cons, if_neg h, List.filter_nil]
theorem sideTo_n (a : Abs) (p t : Nat) : sideTo a p t a.n = side a p t := by
  unfold sideTo side Abs.near Abs.ps
  rw [List.filter_filter]
  refine List.filter_congr fun q hq => ?_
  rw [Bool.eq_iff_iff]
  simp only [Bool.and_eq_true, decide_eq_true_eq, bne_iff_ne, List.mem_filter, ne_eq, hq, true_and]
theorem sideTo_len (a : Abs) (p t i : Nat) : (sideTo a p t i).length ≤ i := Nat.le_trans (List.length_filter_le _ _) (by rw [List.length_range]; exact Nat.le_refl _)
theorem ok_side {f : Addr} {fd : FuncData} {k : Nat} (F : Fun K "side" "side" sSide f fd) (B : Bt mg) (G : Df P w K mg base "are_joined" ["joined", "one", "other"] k spJn) : FnOk P w K mg base CX0 (k + 1) f fd ["joined", "person", "teller"] spSide := by
  obtain ⟨g, gd, G, bG, kG, mG⟩ := G.ex
  refine F.ok scSide (fun vs H Q E h => ?_) (fun cdv A outer s H vs Q E hr h => ?_)
  · obtain ⟨j, a, p, q, rfl, _⟩ := h
    rfl
  · obtain ⟨j, a, p, t, rfl, hj, hp, kk⟩ := h
    refine ⟨_, pss_one (ps_ret (pe_lc (own := [("other", 3)]) rfl scSide.nd (pi_range1 rfl B.range (pa_cons (pe_callB call_len_seq rfl B.len PySem.boot_len (pa_cons (pv 0) pa_nil)) pa_nil)) (blkOk_by (by show blkC ["joined", "person", "teller", "other"] (defScope sSide) _ _ = true; decide +kernel))
      (fun _ _ _ _ _ => pg_name (i := 3) scSide.nd rfl (Or.inl rfl))
      (fun _ _ _ _ _ => pts_one (PW.pt (pw_and (pt_cmpR op_ne (pv 3) (pv 2) (nomark _)) (pw_and1 (pt_val (pe_call G hr rfl mG kG bG .nil pass0 (pa_cons (pv 0) (pa_cons (pv 1) (pa_cons (pv 3) pa_nil)))))))))
      (fun _ _ _ _ _ => pv 3))), ?_⟩
    have hn := hj.le
    refine ⟨_, rfl, j, _, rfl, .inl (SqL.of hj.lst), _, rfl, by rw [jv_len]; omega, by rw [jv_len]; omega, ?_⟩
    intro D hD
    refine lc_range (fun i H' => Same H H' ∧ H' D = some (.lst ((sideTo a p t i).map I))) ⟨same_new hD _, upd_same⟩ ?_ ?_
    · rintro i H' hi ⟨s1, hl⟩
      have hi : i < a.n := by rw [jv_len] at hi; simpa using hi
      refine ⟨rfl, _, rfl, _, rfl, rfl, ?_⟩
      have e0 : V.int (0 + (i : Int)) = I i := by rw [Int.zero_add]; rfl
      have grow : ∀ c, (decide (i ≠ t) && decide (i ∈ a.near p)) = c → (c = true → Same H (upd H' D (.lst ((sideTo a p t i).map I ++ [V.int (0 + (i : Int))]))) ∧ upd H' D (.lst ((sideTo a p t i).map I ++ [V.int (0 + (i : Int))])) D = some (.lst ((sideTo a p t (i + 1)).map I))) ∧
          (c = false → Same H H' ∧ H' D = some (.lst ((sideTo a p t (i + 1)).map I))) := fun c hc => by
        rw [sideTo_succ, hc]
        refine ⟨fun z => ⟨s1.grow hD, ?_⟩, fun z => ⟨s1, ?_⟩⟩
        · subst z
          rw [if_pos rfl, upd_same, e0, List.map_append]
          rfl
        · subst z
          rw [if_neg Bool.false_ne_true, List.append_nil]
          exact hl
      have hlen : ((sideTo a p t i).map I).length < sizeLine := by
        have := sideTo_len a p t i
        rw [List.length_map]
        exact sized (by omega)
      refine ⟨_, rfl, ite2 (fun c => ?_) (fun c => ?_)⟩
      · have c1 : i ≠ t := fun z => by
          subst z
          rw [e0, decide_eq_true rfl] at c
          cases c
        refine ⟨_, rfl, _, rfl, _, rfl, j, a, p, i, ?_, hj.same s1, hp, hi, _, rfl, ite2 (fun c2 => ?_) (fun c2 => ?_)⟩
        · show [V.ref j, I p, V.int (0 + (i : Int))] ++ [] = _
          rw [e0]
          rfl
        · exact ⟨_, rfl, _, hl, hlen, (grow true (by rw [c2, decide_eq_true c1]; rfl)).1 rfl⟩
        · exact (grow false (by rw [Bool.eq_false_iff.mpr c2, Bool.and_false])).2 rfl
      · have c1 : i = t := by
          by_cases z : i = t
          · exact z
          · exact absurd (by rw [e0, decide_eq_false fun q => z (by have := V.int.inj q; omega)]; rfl) c
        refine iteF ?_
        exact (grow false (by rw [decide_eq_false (fun q => q c1), Bool.false_and])).2 rfl
    · rintro H' ⟨s1, hl⟩
      rw [jv_len] at hl
      have hl : H' D = some (.lst ((sideTo a p t a.n).map I)) := hl
      rw [sideTo_n] at hl
      exact kk H' D s1 hD hl
end
end NT
end
section
set_option Elab.async false
set_option linter.all false
set_option maxRecDepth 100000
set_option maxHeartbeats 2000000
namespace NT
open PySem PySem.Spec PyProof.Rows L2
open Su115 (Abs)
open TM
abbrev sSize : Stmt := top 6
/-- the number of people of the part -/
def spSize (n : Nat) : Sp := fun vs H Q _ => ∃ (j : Addr) (a : Abs) (p t : Nat), vs = [.ref j, I p, I t] ∧ JAt H j a ∧ p < a.n ∧ card a p t ≤ n ∧ ∀ H', Same H H' → Q (I (Sz a p t)) H'
theorem bt_sum : bootBuiltins "sum" = some (.builtin "sum") := by decide +kernel
theorem bt_sorted : bootBuiltins "sorted" = some (.builtin "sorted") := by decide +kernel
theorem bt_max : bootBuiltins "max" = some (.builtin "max") := by decide +kernel
theorem bt_min : bootBuiltins "min" = some (.builtin "min") := by decide +kernel
theorem bt_all : bootBuiltins "all" = some (.builtin "all") := by decide +kernel
theorem yes_of {σ : L2.St} {H : Hp} {X Y : Hp → Prop} (h : X H) : tYes σ H (fun b H3 => if b = true then X H3 else Y H3) := by
  show if true = true then X H else Y H
  rw [if_pos rfl]
  exact h
theorem I_inj {n m : Nat} (h : I n = I m) : n = m := by have := V.int.inj h; omega
theorem map_at {l : List Nat} {i : Nat} {x : V} (h : (l.map I)[i]? = some x) : ∃ q, l[i]? = some q ∧ x = I q := by
  rw [List.getElem?_map] at h
  cases e : l[i]? with
  | none => rw [e] at h; cases h
  | some q => rw [e] at h; exact ⟨q, rfl, (Option.some.inj h).symm⟩
theorem side_len {a : Abs} {p t : Nat} : (side a p t).length ≤ a.n := by
  rw [← sideTo_n]
  exact sideTo_len a p t a.n
theorem sum_cast : ∀ l : List Nat, (l.map fun (n : Nat) => (n : Int)).sum = ((l.sum : Nat) : Int)
  | [] => rfl
  | x :: l => by rw [List.map_cons, List.sum_cons, List.sum_cons, sum_cast l]; omega
theorem take_succ_map {α β : Type} {f : α → β} {l : List α} {i : Nat} {x : α} (h : l[i]? = some x) : ((l.take i).map f) ++ [f x] = (l.take (i + 1)).map f := by
  have hi := (List.getElem?_eq_some_iff.mp h)
  rw [List.take_add_one, h, List.map_append]
  rfl
section
variable {P : Program} {w : World} {K : PySem.W.Frag} {mg : Str → Option Value} {base : Heap}
theorem scSize : FnScope ["joined", "person", "teller", "other"] ["joined", "person", "teller"] (defScope sSize) := ⟨rfl, rfl, rfl, by decide +kernel, rfl, by decide +kernel, by decide +kernel⟩
theorem ok_size {f : Addr} {fd : FuncData} {n k : Nat} (F : Fun K "size" "size" sSize f fd) (B : Bt mg) (S : Df P w K mg base "side" ["joined", "person", "teller"] 2 spSide) (G : Df P w K mg base "size" ["joined", "person", "teller"] k (spSize n)) (hk : 2 ≤ k) :
    FnOk P w K mg base CX0 (k + 1) f fd ["joined", "person", "teller"] (spSize (n + 1)) := by
  obtain ⟨g, gd, G, bG, kG, mG⟩ := G.ex
  obtain ⟨sf, sd, S, bS, kS, mS⟩ := S.ex
  refine F.ok scSize (fun vs H Q E h => ?_) (fun cdv A outer s H vs Q E hr h => ?_)
  · obtain ⟨j, a, p, q, rfl, _⟩ := h
    rfl
  · obtain ⟨j, a, p, t, rfl, hj, hp, hc, kk⟩ := h
    have hr2 : Room 2 _ := hr.mono hk
    refine ⟨_, pss_one (ps_ret (pe_op op_add pe_int (pe_callB (cr_sum rfl) rfl B.sum bt_sum (pa_cons (pe_lc (own := [("other", 3)]) rfl scSize.nd
      (pi_list (pe_call S hr2 rfl mS kS bS .nil pass0 (pa_cons (pv 0) (pa_cons (pv 1) (pa_cons (pv 2) pa_nil))))) (blkOk_by (by show blkC ["joined", "person", "teller", "other"] (defScope sSize) _ _ = true; decide +kernel))
      (fun _ _ _ _ _ => pg_name (i := 3) scSize.nd rfl (Or.inl rfl))
      (fun _ _ _ _ _ => pts_nil)
      (fun _ _ _ _ _ => pe_call G hr rfl mG kG bG .nil pass0 (pa_cons (pv 0) (pa_cons (pv 3) (pa_cons (pv 1) pa_nil))))) pa_nil)))), ?_⟩
    refine ⟨_, rfl, _, rfl, _, rfl, j, a, p, t, rfl, hj, hp, fun H1 r s1 hr0 hl => ?_⟩
    refine ⟨_, rfl, ⟨_, SqL.of hl⟩, ?_⟩
    intro D hD
    have hwf := hj.wf
    have hle := hj.le
    have hlen := side_len (a := a) (p := p) (t := t)
    refine lc_list (K := K) (a := r) (xs := (side a p t).map I) (fun i H' => Same H1 H' ∧ H' D = some (.lst (((side a p t).take i).map fun q => I (Sz a q p)))) ⟨same_new hD _, upd_same⟩ (fun i H' _ ⟨s2, _⟩ => SqL.of (s2 _ _ hl)) ?_ ?_
    · rintro i x H' hx ⟨s2, hd⟩
      obtain ⟨q, hq, rfl⟩ := map_at hx
      have mq := List.mem_of_getElem? hq
      obtain ⟨m1, m2⟩ := mem_side.mp mq
      refine ⟨rfl, yes_of ?_⟩
      refine ⟨_, rfl, _, rfl, _, rfl, j, a, q, p, rfl, (hj.same s1).same s2, near_lt m1, by have := card_lt hwf hp m1 m2; omega, fun H3 s3 => ?_⟩
      refine ⟨_, s3 _ _ hd, ?_, (s2.trans s3).grow hD, ?_⟩
      · rw [List.length_map, List.length_take]
        exact sized (by omega)
      · rw [upd_same, take_succ_map (f := fun q => I (Sz a q p)) hq]
    · rintro H' ⟨s2, hd⟩
      rw [List.length_map, List.take_length] at hd
      have e1 : ((side a p t).map fun q => I (Sz a q p)) = ((side a p t).map fun q => ((Sz a q p : Nat) : Int)).map V.int := by rw [List.map_map]; rfl
      rw [e1] at hd
      refine ⟨D, _, rfl, SqL.of hd, _, _, rfl, rfl, ?_⟩
      have e2 : (1 : Int) + ((side a p t).map fun q => ((Sz a q p : Nat) : Int)).sum = (Sz a p t : Nat) := by
        have q := sum_cast ((side a p t).map fun q => Sz a q p)
        rw [List.map_map] at q
        have q' : ((side a p t).map fun q => ((Sz a q p : Nat) : Int)).sum = ((((side a p t).map fun q => Sz a q p).sum : Nat) : Int) := q
        rw [q', sz_eq hwf hp]
        omega
      have := kk H' (s1.trans s2)
      unfold I at this
      rw [← e2] at this
      exact this
end
end NT
end
section
set_option Elab.async false
set_option linter.all false
set_option maxRecDepth 100000
set_option maxHeartbeats 2000000
namespace NT
open PySem PySem.Spec PyProof.Rows L2
open Su115 (Abs)
open TM
abbrev sRank : Stmt := top 7
abbrev sNeed : Stmt := top 8
abbrev sCO : Stmt := top 10
/-- a loop over enumerate(list, start=1) -/
theorem for_enum1 {K : PySem.W.Frag} {a : Addr} {xs : List V} {g : TG} {tb : TS} {D : Ends} {σ : L2.St} {H : Hp} (Pv : Nat → L2.St → Hp → Prop) (h0 : Pv 0 σ H) (hl : ∀ i σ H, i ≤ xs.length → Pv i σ H → SqL K H a xs)
    (hs : ∀ i x σ H T, xs[i]? = some x → Pv i σ H → H T = none → g (.ref T) σ (upd H T (.tup [I (i + 1), x])) fun σ2 H2 => tb { D with nx := Pv (i + 1), ct := Pv (i + 1), bk := D.nx } σ2 H2) (hd : ∀ σ H, Pv xs.length σ H → D.nx σ H) :
    ∃ W : Nat → Nat → L2.St → Hp → Prop, (∃ m, W 0 m σ H) ∧ ∀ i m σ H, W i m σ H →
      ((Ite1 K a).stop i H ∧ D.nx σ H) ∨ ((Ite1 K a).go i H ∧ ∃ N : L2.St → Hp → Prop, (∀ σ' H', N σ' H' → ∃ m', m' < m ∧ W (i + 1) m' σ' H') ∧ ∀ x H', (Ite1 K a).yld i H x H' → g x σ H' fun σ2 H2 => tb { D with nx := N, ct := N, bk := D.nx } σ2 H2) := by
  refine ⟨fun i m σ H => m = xs.length - i ∧ i ≤ xs.length ∧ Pv i σ H, ⟨xs.length, by simp, Nat.zero_le _, h0⟩, ?_⟩
  rintro i m σ H ⟨rfl, hi, p⟩
  have q := hl i σ H hi p
  by_cases hlt : i < xs.length
  · refine .inr ⟨⟨xs, xs[i], q, by simp [hlt]⟩, Pv (i + 1), fun σ' H' p' => ⟨xs.length - (i + 1), by omega, rfl, hlt, p'⟩, fun x H' y => ?_⟩
    obtain ⟨T, z, rfl, hT, rfl, hz⟩ := y
    exact hs i z σ H T (hz xs q) p hT
  · have e : i = xs.length := by omega
    subst e
    exact .inl ⟨⟨xs, q, Nat.le_refl _⟩, hd σ H p⟩
/-! ### whom one calls, in order -/
def key (a : Abs) (p q : Nat) : Int × Int := (-((Hr a q p : Nat) : Int), (q : Int))
def lex2 (x y : Int × Int) : Prop := x.1 < y.1 ∨ (x.1 = y.1 ∧ x.2 ≤ y.2)
theorem order_keys {a : Abs} {p t : Nat} {L : List (Int × Int)} (hp : L.Perm ((side a p t).map (key a p))) (hs : L.Pairwise lex2) : L = (a.order p t).map (key a p) := by
  refine List.Perm.eq_of_pairwise (le := lex2) (fun x y _ _ h1 h2 => ?_) hs ?_ (hp.trans ((order_perm a p t).symm.map _))
  · unfold lex2 at h1 h2
    exact Prod.ext (by omega) (by omega)
  · refine List.pairwise_map.mpr ((order_sorted a p t).imp fun {r q} h => ?_)
    unfold Bef at h
    unfold lex2 key
    dsimp only
    omega
/-- pairs as ranked hands them back -/
structure RankAt (H : Hp) (r : Addr) (a : Abs) (p t : Nat) (ps : List P3) : Prop where
  lst : H r = some (.lst (ps.map fun z => V.ref z.1))
  prs : PairsAt H ps
  eq : ps.map (·.2) = (a.order p t).map (key a p)
def spRank (n : Nat) : Sp := fun vs H Q _ => ∃ (j : Addr) (a : Abs) (p t : Nat), vs = [.ref j, I p, I t] ∧ JAt H j a ∧ p < a.n ∧ card a p t ≤ n ∧ ∀ H' r ps, Same H H' → RankAt H' r a p t ps → Q (.ref r) H'
def spNeed (n : Nat) : Sp := fun vs H Q _ => ∃ (j : Addr) (a : Abs) (p t : Nat), vs = [.ref j, I p, I t] ∧ JAt H j a ∧ p < a.n ∧ card a p t ≤ n ∧ ∀ H', Same H H' → Q (I (Hr a p t)) H'
def spCO (n : Nat) : Sp := fun vs H Q _ => ∃ (j : Addr) (a : Abs) (p t : Nat), vs = [.ref j, I p, I t] ∧ JAt H j a ∧ p < a.n ∧ card a p t ≤ n ∧ newL H Q (a.order p t)
section
variable {P : Program} {w : World} {K : PySem.W.Frag} {mg : Str → Option Value} {base : Heap}
theorem scRank : FnScope ["joined", "person", "teller", "other"] ["joined", "person", "teller"] (defScope sRank) := ⟨rfl, rfl, rfl, by decide +kernel, rfl, by decide +kernel, by decide +kernel⟩
theorem _root_.L2.PairsAt.same {H H' : Hp} {ps : List P3} (h : PairsAt H ps) (s : Same H H') : PairsAt H' ps := fun z hz => s _ _ (h z hz)
theorem _root_.L2.PairsAt.updL {H : Hp} {ps : List P3} {D : Addr} {xs ys : List V} (h : PairsAt H ps) (hD : H D = some (.lst xs)) : PairsAt (upd H D (.lst ys)) ps := fun z hz => by
  rw [upd_ne (ne_of (h z hz) hD (by intro q; cases q))]
  exact h z hz
theorem ok_rank {f : Addr} {fd : FuncData} {n k : Nat} (F : Fun K "ranked" "ranked" sRank f fd) (B : Bt mg) (S : Df P w K mg base "side" ["joined", "person", "teller"] 2 spSide) (G : Df P w K mg base "need" ["joined", "person", "teller"] k (spNeed n)) (hk : 2 ≤ k) :
    FnOk P w K mg base CX0 (k + 1) f fd ["joined", "person", "teller"] (spRank (n + 1)) := by
  obtain ⟨g, gd, G, bG, kG, mG⟩ := G.ex
  obtain ⟨sf, sd, S, bS, kS, mS⟩ := S.ex
  refine F.ok scRank (fun vs H Q E h => ?_) (fun cdv A outer s H vs Q E hr h => ?_)
  · obtain ⟨j, a, p, q, rfl, _⟩ := h
    rfl
  · obtain ⟨j, a, p, t, rfl, hj, hp, hc, kk⟩ := h
    have hr2 : Room 2 _ := hr.mono hk
    refine ⟨_, pss_one (ps_ret (pe_callB cr_sortedP rfl B.sorted bt_sorted (pa_cons (pe_lc (own := [("other", 3)]) rfl scRank.nd
      (pi_list (pe_call S hr2 rfl mS kS bS .nil pass0 (pa_cons (pv 0) (pa_cons (pv 1) (pa_cons (pv 2) pa_nil))))) (blkOk_by (by show blkC ["joined", "person", "teller", "other"] (defScope sRank) _ _ = true; decide +kernel))
      (fun _ _ _ _ _ => pg_name (i := 3) scRank.nd rfl (Or.inl rfl))
      (fun _ _ _ _ _ => pts_nil)
      (fun _ _ _ _ _ => pe_tup (pa_cons (pe_un un_neg (pe_call G hr rfl mG kG bG .nil pass0 (pa_cons (pv 0) (pa_cons (pv 3) (pa_cons (pv 1) pa_nil))))) (pa_cons (pv 3) pa_nil)))) pa_nil))), ?_⟩
    refine ⟨_, rfl, _, rfl, _, rfl, j, a, p, t, rfl, hj, hp, fun H1 r s1 hr0 hl => ?_⟩
    refine ⟨_, rfl, ⟨_, SqL.of hl⟩, ?_⟩
    intro D hD
    have hwf := hj.wf
    have hle := hj.le
    have hlen := side_len (a := a) (p := p) (t := t)
    refine lc_list (K := K) (a := r) (xs := (side a p t).map I) (fun i H' => Same H1 H' ∧ ∃ ps : List P3, H' D = some (.lst (ps.map fun z => V.ref z.1)) ∧ PairsAt H' ps ∧ ps.map (·.2) = ((side a p t).take i).map (key a p))
      ⟨same_new hD _, [], upd_same, (fun z hz => by cases hz), rfl⟩ (fun i H' _ ⟨s2, _⟩ => SqL.of (s2 _ _ hl)) ?_ ?_
    · rintro i x H' hx ⟨s2, ps, hd, hps, hkey⟩
      obtain ⟨q, hq, rfl⟩ := map_at hx
      have mq := List.mem_of_getElem? hq
      obtain ⟨m1, m2⟩ := mem_side.mp mq
      refine ⟨rfl, yes_of ?_⟩
      refine ⟨_, rfl, _, rfl, _, rfl, j, a, q, p, rfl, (hj.same s1).same s2, near_lt m1, by have := card_lt hwf hp m1 m2; omega, fun H3 s3 => ?_⟩
      refine ⟨_, rfl, _, rfl, (by show 2 ≤ sizeLine; decide), fun T hT => ?_⟩
      have s4 := same_new hT (.tup [.int (-((Hr a q p : Nat) : Int)), I q])
      have hd4 := s4 _ _ (s3 _ _ hd)
      have hpl : ps.length = i := by
        have := congrArg List.length hkey
        rw [List.length_map, List.length_map, List.length_take] at this
        have hi := (List.getElem?_eq_some_iff.mp hq).1
        omega
      refine ⟨_, hd4, ?_, ((s2.trans s3).trans s4).grow hD, ps ++ [(T, key a p q)], ?_, ?_, ?_⟩
      · rw [List.length_map]
        have hi := (List.getElem?_eq_some_iff.mp hq).1
        exact sized (by omega)
      · rw [upd_same, List.map_append]
        rfl
      · refine L2.PairsAt.updL (fun z hz => ?_) hd4
        rcases List.mem_append.mp hz with hz | hz
        · exact s4 _ _ (s3 _ _ (hps z hz))
        · rw [List.mem_singleton.mp hz]
          exact upd_same
      · rw [List.map_append, hkey, ← take_succ_map (f := key a p) hq]
        rfl
    · rintro H' ⟨s2, ps, hd, hps, hkey⟩
      rw [List.length_map, List.take_length] at hkey
      refine ⟨D, ps, rfl, SqL.of hd, hps, fun ps' r' h1 h2 h3 => ?_⟩
      have s5 := same_new h3 (.lst (ps'.map fun z => V.ref z.1))
      refine kk _ r' ps' ((s1.trans s2).trans s5) ⟨upd_same, fun z hz => s5 _ _ (hps z (h1.mem_iff.mp hz)), order_keys ?_ ?_⟩
      · rw [← hkey]
        exact h1.map _
      · exact List.pairwise_map.mpr (h2.imp fun h => h)
end
end NT
end
section
set_option Elab.async false
set_option linter.all false
set_option maxRecDepth 100000
set_option maxHeartbeats 2000000
namespace NT
open PySem PySem.Spec PyProof.Rows L2
open Su115 (Abs)
open TM
theorem after_snoc (x : Nat) : ∀ (l : List Nat) (k : Nat), Su115.after (l ++ [x]) k = max (Su115.after l k) (x + (k + l.length))
  | [], k => by
    show max (x + k) 0 = max 0 (x + (k + 0))
    omega
  | y :: l, k => by
    show max (y + k) (Su115.after (l ++ [x]) (k + 1)) = max (max (y + k) (Su115.after l (k + 1))) (x + (k + (l.length + 1)))
    rw [after_snoc x l (k + 1)]
    omega
theorem rank_at {a : Abs} {p t i : Nat} {ps : List P3} {H : Hp} {r : Addr} {x : V} (R : RankAt H r a p t ps) (hx : (ps.map fun z => V.ref z.1)[i]? = some x) :
    ∃ z q, x = V.ref z.1 ∧ z ∈ ps ∧ (a.order p t)[i]? = some q ∧ z.2 = key a p q := by
  rw [List.getElem?_map] at hx
  cases e : ps[i]? with
  | none => rw [e] at hx; cases hx
  | some z =>
    rw [e] at hx
    have ex : V.ref z.1 = x := Option.some.inj hx
    have e2 : (ps.map (·.2))[i]? = some z.2 := by rw [List.getElem?_map, e]; rfl
    rw [R.eq, List.getElem?_map] at e2
    cases e3 : (a.order p t)[i]? with
    | none => rw [e3] at e2; cases e2
    | some q =>
      rw [e3] at e2
      exact ⟨z, q, ex.symm, List.mem_of_getElem? e, rfl, (Option.some.inj e2).symm⟩
theorem rank_len {a : Abs} {p t : Nat} {ps : List P3} {H : Hp} {r : Addr} (R : RankAt H r a p t ps) : ps.length = (a.order p t).length := by
  have := congrArg List.length R.eq
  rwa [List.length_map, List.length_map] at this
theorem order_len {a : Abs} {p t : Nat} : (a.order p t).length ≤ a.n := by
  rw [(order_perm a p t).length_eq]
  exact side_len
section
variable {P : Program} {w : World} {K : PySem.W.Frag} {mg : Str → Option Value} {base : Heap}
theorem scNeed : FnScope ["joined", "person", "teller", "most", "place", "pair"] ["joined", "person", "teller"] (defScope sNeed) := ⟨rfl, rfl, rfl, by decide +kernel, rfl, by decide +kernel, by decide +kernel⟩
theorem ok_need {f : Addr} {fd : FuncData} {n k : Nat} (F : Fun K "need" "need" sNeed f fd) (B : Bt mg) (G : Df P w K mg base "ranked" ["joined", "person", "teller"] k (spRank n)) :
    FnOk P w K mg base CX0 (k + 1) f fd ["joined", "person", "teller"] (spNeed n) := by
  obtain ⟨g, gd, G, bG, kG, mG⟩ := G.ex
  refine F.ok scNeed (fun vs H Q E h => ?_) (fun cdv A outer s H vs Q E hr h => ?_)
  · obtain ⟨j, a, p, q, rfl, _⟩ := h
    rfl
  · obtain ⟨j, a, p, t, rfl, hj, hp, hc, kk⟩ := h
    refine ⟨_, pss_cons (ps_set (i := 3) scNeed.nd rfl (Or.inl rfl) pe_int) (pss_cons (ps_for PassesOwn.never rfl (pi_enum1 rfl B.enumerate (pa_cons (pe_call G hr rfl mG kG bG .nil pass0 (pa_cons (pv 0) (pa_cons (pv 1) (pa_cons (pv 2) pa_nil)))) pa_nil))
        (pg_tup rfl (pgs_cons (pg_name (i := 4) scNeed.nd rfl (Or.inl rfl)) (pgs_cons (pg_name (i := 5) scNeed.nd rfl (Or.inl rfl)) pgs_nil)))
        (pss_one (ps_set (i := 3) scNeed.nd rfl (Or.inl rfl) (pe_callB (call_max2 rfl) rfl B.max bt_max (pa_cons (pv 3) (pa_cons (pe_op op_sub (pv 4) (pe_ix ix_tup (pv 5) pe_int (fun _ _ => rfl))) pa_nil))))))
      (pss_one (ps_ret (pv 3)))), ?_⟩
    refine ⟨_, rfl, _, rfl, _, rfl, j, a, p, t, rfl, hj, hp, hc, fun H1 r ps s1 R => ?_⟩
    refine ⟨r, _, rfl, SqL.of R.lst, ?_⟩
    refine for_enum1 (K := K) (a := r) (xs := ps.map fun z => V.ref z.1) (fun i σ H' => ∃ v4 v5 : Option V, σ = [some (.ref j), some (I p), some (I t), some (I (Su115.after (((a.order p t).take i).map fun q => Hr a q p) 1)), v4, v5] ∧ Same H1 H')
      ⟨none, none, rfl, Same.refl _⟩ (fun i σ H' _ ⟨_, _, _, s2⟩ => SqL.of (s2 _ _ R.lst)) ?_ ?_
    · rintro i x σ H' T hx ⟨v4, v5, rfl, s2⟩ hT
      obtain ⟨z, q, rfl, hz, hq, ez⟩ := rank_at R hx
      have s3 := same_new hT (.tup [I (i + 1), V.ref z.1])
      have hzt := s3 _ _ (s2 _ _ (R.prs z hz))
      refine ⟨T, _, rfl, SqT.of upd_same, rfl, _, _, rfl, _, _, rfl, rfl, ?_⟩
      refine ⟨_, rfl, _, rfl, _, rfl, z.1, _, _, _, rfl, rfl, SqT.of hzt, rfl, _, _, rfl, rfl, _, _, rfl, ?_⟩
      refine ⟨some (I (i + 1)), some (V.ref z.1), ?_, s2.trans s3⟩
      have e1 : ((i + 1 : Nat) : Int) - z.2.1 = ((Hr a q p + (i + 1) : Nat) : Int) := by
        rw [ez]
        unfold key
        dsimp only
        omega
      have hi := (List.getElem?_eq_some_iff.mp hq).1
      have e2 : Su115.after (((a.order p t).take (i + 1)).map fun q => Hr a q p) 1 = max (Su115.after (((a.order p t).take i).map fun q => Hr a q p) 1) (Hr a q p + (i + 1)) := by
        rw [← take_succ_map (f := fun q => Hr a q p) hq, after_snoc, List.length_map, List.length_take]
        have : min i (a.order p t).length = i := by omega
        rw [this]
        omega
      have e3 : ∀ m n : Nat, (if ((n : Nat) : Int) > (m : Int) then ((n : Nat) : Int) else (m : Int)) = ((max m n : Nat) : Int) := fun m n => by
        by_cases h : n > m
        · rw [if_pos (by omega)]; omega
        · rw [if_neg (by omega)]; omega
      have e4 : V.int (if ((i + 1 : Nat) : Int) - z.2.1 > ((Su115.after (((a.order p t).take i).map fun q => Hr a q p) 1 : Nat) : Int) then ((i + 1 : Nat) : Int) - z.2.1 else ((Su115.after (((a.order p t).take i).map fun q => Hr a q p) 1 : Nat) : Int)) = I (Su115.after (((a.order p t).take (i + 1)).map fun q => Hr a q p) 1) := by
        rw [e1, e3, e2]
        rfl
      exact congrArg (fun v => [some (V.ref j), some (I p), some (I t), some v, some (I (i + 1)), some (V.ref z.1)]) e4
    · rintro σ H' ⟨v4, v5, rfl, s2⟩
      rw [List.length_map, rank_len R, List.take_length, ← hr_order hj.wf hp]
      exact ⟨_, rfl, kk _ (s1.trans s2)⟩
theorem scCO : FnScope ["joined", "person", "teller", "pair"] ["joined", "person", "teller"] (defScope sCO) := ⟨rfl, rfl, rfl, by decide +kernel, rfl, by decide +kernel, by decide +kernel⟩
theorem ok_co {f : Addr} {fd : FuncData} {n k : Nat} (F : Fun K "calling_order" "calling_order" sCO f fd) (B : Bt mg) (G : Df P w K mg base "ranked" ["joined", "person", "teller"] k (spRank n)) :
    FnOk P w K mg base CX0 (k + 1) f fd ["joined", "person", "teller"] (spCO n) := by
  obtain ⟨g, gd, G, bG, kG, mG⟩ := G.ex
  refine F.ok scCO (fun vs H Q E h => ?_) (fun cdv A outer s H vs Q E hr h => ?_)
  · obtain ⟨j, a, p, q, rfl, _⟩ := h
    rfl
  · obtain ⟨j, a, p, t, rfl, hj, hp, hc, kk⟩ := h
    refine ⟨_, pss_one (ps_ret (pe_lc (own := [("pair", 3)]) (te := tOp (rIxT K) (tVar 3) (tC (.int 1))) rfl scCO.nd
      (pi_list (pe_call G hr rfl mG kG bG .nil pass0 (pa_cons (pv 0) (pa_cons (pv 1) (pa_cons (pv 2) pa_nil))))) (blkOk_by (by show blkC ["joined", "person", "teller", "pair"] (defScope sCO) _ _ = true; decide +kernel))
      (fun _ _ _ _ _ => pg_name (i := 3) scCO.nd rfl (Or.inl rfl))
      (fun _ _ _ _ _ => pts_nil)
      (fun _ _ _ _ _ => pe_ix ix_tup (pv 3) pe_int (fun _ _ => rfl)))), ?_⟩
    refine ⟨_, rfl, _, rfl, _, rfl, j, a, p, t, rfl, hj, hp, hc, fun H1 r ps s1 R => ?_⟩
    refine ⟨_, rfl, ⟨_, SqL.of R.lst⟩, ?_⟩
    intro D hD
    have hle := hj.le
    have hlen := order_len (a := a) (p := p) (t := t)
    refine lc_list (K := K) (a := r) (xs := ps.map fun z => V.ref z.1) (fun i H' => Same H1 H' ∧ H' D = some (.lst (((a.order p t).take i).map I))) ⟨same_new hD _, upd_same⟩ (fun i H' _ ⟨s2, _⟩ => SqL.of (s2 _ _ R.lst)) ?_ ?_
    · rintro i x H' hx ⟨s2, hd⟩
      obtain ⟨z, q, rfl, hz, hq, ez⟩ := rank_at R hx
      refine ⟨rfl, yes_of ?_⟩
      refine ⟨_, rfl, z.1, _, _, _, rfl, rfl, SqT.of (s2 _ _ (R.prs z hz)), rfl, _, hd, ?_, s2.grow hD, ?_⟩
      · rw [List.length_map, List.length_take]
        exact sized (by omega)
      · rw [upd_same]
        have e : V.int z.2.2 = I q := by rw [ez]; rfl
        rw [e, take_succ_map (f := I) hq]
    · rintro H' ⟨s2, hd⟩
      rw [List.length_map, rank_len R, List.take_length] at hd
      exact kk H' D (s1.trans s2) (s1.free hD) hd
end
end NT
end
section
set_option Elab.async false
set_option linter.all false
set_option maxRecDepth 100000
set_option maxHeartbeats 2000000
namespace NT
open PySem PySem.Spec PyProof.Rows L2
open Su115 (Abs)
open TM
abbrev sTell : Stmt := top 11
abbrev sPH : Stmt := top 12
/-- all that was tracked is as it was, but for h -/
def SameBut (h : Addr) (H H' : Hp) : Prop := ∀ b o, b ≠ h → H b = some o → H' b = some o
theorem SameBut.trans {h : Addr} {H H1 H2 : Hp} (s : SameBut h H H1) (t : SameBut h H1 H2) : SameBut h H H2 := fun b o n e => t b o n (s b o n e)
theorem _root_.L2.Same.but {H H' : Hp} (h : Addr) (s : Same H H') : SameBut h H H' := fun b o _ e => s b o e
theorem sb_upd {h : Addr} {H : Hp} {o : HO} : SameBut h H (upd H h o) := fun b u n e => by rw [upd_ne n]; exact e
theorem JAt.sb {H H' : Hp} {j h : Addr} {a : Abs} (s : JAt H j a) (n : j ≠ h) (k : SameBut h H H') : JAt H' j a := ⟨k _ _ n s.lst, s.wf, s.le⟩
theorem plans_snoc (a : Abs) (p q : Nat) : ∀ (o : List Nat) (t : Nat), plans a p (o ++ [q]) t = plans a p o t ++ Pl a q p (t + o.length + 1)
  | [], t => by
    show Pl a q p (t + 1) ++ [] = [] ++ Pl a q p (t + 0 + 1)
    rw [List.append_nil, List.nil_append, Nat.add_zero]
  | r :: o, t => by
    show Pl a r p (t + 1) ++ plans a p (o ++ [q]) (t + 1) = (Pl a r p (t + 1) ++ plans a p o (t + 1)) ++ Pl a q p (t + (o.length + 1) + 1)
    rw [plans_snoc a p q o (t + 1), List.append_assoc, show t + 1 + o.length + 1 = t + (o.length + 1) + 1 by omega]
theorem plans_not {a : Abs} (w : Wf a) {p : Nat} (hp : p < a.n) {o : List Nat} (ho : ∀ q ∈ o, q ∈ a.near p) {t : Nat} : ∀ z ∈ plans a p o t, z.1 ≠ p := fun z hz e => by
  obtain ⟨q, hq, u, hz⟩ := plans_mem hz
  have k := pl_keys w (near_lt (ho q hq)) _ _ hz
  rw [e] at k
  exact pt_src w (near_symm hp (ho q hq)) (near_lt (ho q hq)) k
def spTell (n : Nat) : Sp := fun vs H Q _ => ∃ (j h : Addr) (a : Abs) (p t : Nat) (hs : List Nat) (u : Nat), vs = [.ref j, I p, I t, .ref h] ∧ JAt H j a ∧ j ≠ h ∧ p < a.n ∧ card a p t ≤ n ∧ H h = some (.lst (hs.map I)) ∧ hs.length = a.n ∧ hs[p]? = some u ∧
  ∀ H', SameBut h H H' → H' h = some (.lst ((puts hs (plans a p (a.order p t) u)).map I)) → Q .non H'
def spPH : Sp := fun vs H Q _ => ∃ (j : Addr) (a : Abs) (p : Nat), vs = [.ref j, I p] ∧ JAt H j a ∧ p < a.n ∧ newL H Q (a.told p)
section
variable {P : Program} {w : World} {K : PySem.W.Frag} {mg : Str → Option Value} {base : Heap}
theorem scTell : FnScope ["joined", "person", "teller", "hours", "place", "called"] ["joined", "person", "teller", "hours"] (defScope sTell) := ⟨rfl, rfl, rfl, by decide +kernel, rfl, by decide +kernel, by decide +kernel⟩
theorem ixN_nat {n j : Nat} (h : j < n) : ixN n (j : Int) = some j := by
  unfold ixN
  rw [if_pos (by omega), if_pos (by omega)]
  simp
theorem ok_tell {f : Addr} {fd : FuncData} {n k m : Nat} (F : Fun K "tell" "tell" sTell f fd) (B : Bt mg) (S : Df P w K mg base "calling_order" ["joined", "person", "teller"] m (spCO (n + 1))) (hm : m ≤ k)
    (G : Df P w K mg base "tell" ["joined", "person", "teller", "hours"] k (spTell n)) : FnOk P w K mg base CX0 (k + 1) f fd ["joined", "person", "teller", "hours"] (spTell (n + 1)) := by
  obtain ⟨g, gd, G, bG, kG, mG⟩ := G.ex
  obtain ⟨sf, sd, S, bS, kS, mS⟩ := S.ex
  refine F.ok scTell (fun vs H Q E h => ?_) (fun cdv A outer s H vs Q E hr h => ?_)
  · obtain ⟨j, h, a, p, q, hs, u, rfl, _⟩ := h
    rfl
  · obtain ⟨j, h, a, p, t, hs, u, rfl, hj, hjh, hp, hc, hh, hsl, hsp, kk⟩ := h
    have hrm : Room m _ := hr.mono hm
    refine ⟨_, pss_one (ps_for PassesOwn.never rfl (pi_enum1 rfl B.enumerate (pa_cons (pe_call S hrm rfl mS kS bS .nil pass0 (pa_cons (pv 0) (pa_cons (pv 1) (pa_cons (pv 2) pa_nil)))) pa_nil))
        (pg_tup rfl (pgs_cons (pg_name (i := 4) scTell.nd rfl (Or.inl rfl)) (pgs_cons (pg_name (i := 5) scTell.nd rfl (Or.inl rfl)) pgs_nil)))
        (pss_cons (ps_asg (pe_op op_add (pe_ix ix_list (pv 3) (pv 1) (fun _ _ => rfl)) (pv 4)) (pg_sub (pv 3) (pv 5) set_list))
        (pss_one (ps_expr (pe_call G hr rfl mG kG bG .nil pass0 (pa_cons (pv 0) (pa_cons (pv 5) (pa_cons (pv 1) (pa_cons (pv 3) pa_nil))))))))), ?_⟩
    have hwf := hj.wf
    refine ⟨_, rfl, _, rfl, _, rfl, j, a, p, t, rfl, hj, hp, hc, fun H1 r s1 hr0 hl => ?_⟩
    refine ⟨r, _, rfl, SqL.of hl, ?_⟩
    have hrh : r ≠ h := fun e => by rw [e, hh] at hr0; cases hr0
    refine for_enum1 (K := K) (a := r) (xs := (a.order p t).map I) (fun i σ H' => ∃ v4 v5 : Option V, σ = [some (.ref j), some (I p), some (I t), some (.ref h), v4, v5] ∧ SameBut h H1 H' ∧ H' h = some (.lst ((puts hs (plans a p ((a.order p t).take i) u)).map I)))
      ⟨none, none, rfl, fun _ _ _ e => e, s1 _ _ hh⟩ (fun i σ H' _ ⟨_, _, _, s2, _⟩ => SqL.of (s2 _ _ hrh hl)) ?_ ?_
    · rintro i x σ H' T hx ⟨v4, v5, rfl, s2, hd⟩ hT
      obtain ⟨q, hq, rfl⟩ := map_at hx
      have mq := List.mem_of_getElem? hq
      obtain ⟨m1, m2⟩ := mem_order.mp mq
      have s3 := same_new hT (.tup [I (i + 1), I q])
      have hd3 := s3 _ _ hd
      have hlen : (puts hs (plans a p ((a.order p t).take i) u)).length = a.n := by rw [puts_length, hsl]
      have hat : (puts hs (plans a p ((a.order p t).take i) u))[p]? = some u := by
        rw [puts_ne _ _ _ (plans_not hwf hp fun r hr => (mem_order.mp (List.mem_of_mem_take hr)).1)]
        exact hsp
      refine ⟨T, _, rfl, SqT.of upd_same, rfl, _, _, rfl, _, _, rfl, rfl, ?_⟩
      refine ⟨_, rfl, _, rfl, h, _, _, _, rfl, rfl, SqL.of hd3, atI_nat (j := p) (v := I u) (by rw [List.getElem?_map, hat]; rfl), _, rfl, _, _, rfl, rfl, ?_⟩
      refine ⟨_, rfl, _, rfl, h, _, _, q, rfl, rfl, hd3, ixN_nat (by rw [List.length_map, hlen]; exact near_lt m1), ?_⟩
      have hi := (List.getElem?_eq_some_iff.mp hq).1
      have hset : (((puts hs (plans a p ((a.order p t).take i) u)).map I).set q (V.int ((u : Int) + ((i + 1 : Nat) : Int)))) = ((puts hs (plans a p ((a.order p t).take i) u)).set q (u + i + 1)).map I := by
        rw [List.map_set]
        congr 1
      refine ⟨_, rfl, _, rfl, _, rfl, _, rfl, j, h, a, q, p, (puts hs (plans a p ((a.order p t).take i) u)).set q (u + i + 1), u + i + 1, rfl, ?_, hjh, near_lt m1, by have := card_lt hwf hp m1 m2; omega, by rw [upd_same]; exact congrArg (fun z => some (HO.lst z)) hset, by rw [List.length_set]; exact hlen,
        List.getElem?_set_self (by rw [hlen]; exact near_lt m1), fun H5 s5 h5 => ?_⟩
      · exact (((hj.same s1).sb hjh s2).same s3).sb hjh sb_upd
      · refine ⟨some (I (i + 1)), some (I q), rfl, ((s2.trans (s3.but h)).trans sb_upd).trans s5, ?_⟩
        rw [h5, List.take_add_one, hq]
        show _ = some (HO.lst (List.map I (puts hs (plans a p ((a.order p t).take i ++ [q]) u))))
        rw [plans_snoc, puts_append, List.length_take, show min i (a.order p t).length = i by omega, pl_eq hwf (near_lt m1)]
        rfl
    · rintro σ H' ⟨v4, v5, rfl, s2, hd⟩
      rw [List.length_map, List.take_length] at hd
      exact kk H' (fun b o nb e => s2 b o nb (s1 b o e)) hd
theorem scPH : FnScope ["joined", "person", "hours"] ["joined", "person"] (defScope sPH) := ⟨rfl, rfl, rfl, by decide +kernel, rfl, by decide +kernel, by decide +kernel⟩
theorem zeros (n : Nat) : (List.replicate n [V.int 0]).flatten = (List.replicate n 0).map I := by
  induction n with
  | zero => rfl
  | succ n ih =>
    rw [List.replicate_succ, List.flatten_cons, ih, List.replicate_succ, List.map_cons]
    rfl
theorem told_puts {a : Abs} (w : Wf a) {p : Nat} (hp : p < a.n) : a.told p = puts (List.replicate a.n 0) (plans a p (a.order p p) 0) := by
  rw [told_eq w hp, ← pl_nobody w hp, pl_eq w hp]
  show puts ((List.replicate a.n 0).set p 0) _ = _
  congr 1
  refine List.ext_getElem? fun i => ?_
  by_cases e : p = i
  · subst e
    rw [List.getElem?_set_self (by rw [List.length_replicate]; exact hp), List.getElem?_replicate, if_pos hp]
  · rw [List.getElem?_set_ne e]
theorem ok_ph {f : Addr} {fd : FuncData} {n k : Nat} (F : Fun K "plan_hours" "plan_hours" sPH f fd) (B : Bt mg) (hn : 14 ≤ n)
    (G : Df P w K mg base "tell" ["joined", "person", "teller", "hours"] k (spTell n)) : FnOk P w K mg base CX0 (k + 1) f fd ["joined", "person"] spPH := by
  obtain ⟨g, gd, G, bG, kG, mG⟩ := G.ex
  refine F.ok scPH (fun vs H Q E h => ?_) (fun cdv A outer s H vs Q E hr h => ?_)
  · obtain ⟨j, a, p, rfl, _⟩ := h
    rfl
  · obtain ⟨j, a, p, rfl, hj, hp, kk⟩ := h
    refine ⟨_, pss_cons (ps_set (i := 2) scPH.nd rfl (Or.inl rfl) (pe_op op_rep (pe_lst (pa_cons pe_int pa_nil)) (pe_callB call_len_seq rfl B.len PySem.boot_len (pa_cons (pv 0) pa_nil))))
      (pss_cons (ps_expr (pe_call G hr rfl mG kG bG .nil pass0 (pa_cons (pv 0) (pa_cons (pv 1) (pa_cons (pv 1) (pa_cons (pv 2) pa_nil))))))
      (pss_one (ps_ret (pv 2)))), ?_⟩
    have hle := hj.le
    refine ⟨(by show 1 ≤ sizeLine; decide), fun z hz => ?_⟩
    have s1 := same_new hz (.lst [V.int 0])
    refine ⟨_, rfl, j, _, rfl, .inl (SqL.of (s1 _ _ hj.lst)), z, _, _, rfl, rfl, upd_same, by rw [jv_len]; omega, by rw [jv_len]; omega, ?_, fun h hh => ?_⟩
    · rw [jv_len]
      exact Nat.le_of_lt (small1000 (by simp; omega))
    · have s2 := same_new hh (.lst (List.replicate ((((jv a).length : Nat) : Int)).toNat [V.int 0]).flatten)
      have hjh : j ≠ h := ne_of_none (s1 _ _ hj.lst) hh
      have eh : (List.replicate ((((jv a).length : Nat) : Int)).toNat [V.int 0]).flatten = (List.replicate a.n 0).map I := by
        rw [jv_len, Int.toNat_natCast, zeros]
      refine ⟨_, rfl, _, rfl, _, rfl, _, rfl, j, h, a, p, p, List.replicate a.n 0, 0, rfl, (hj.same s1).same s2, hjh, hp, Nat.le_trans card_le (Nat.le_trans hle hn), by rw [upd_same, eh], List.length_replicate, ?_, fun H3 s3 h3 => ?_⟩
      · rw [List.getElem?_replicate, if_pos hp]
      · rw [← told_puts hj.wf hp] at h3
        refine ⟨_, rfl, kk H3 h (fun b o e => s3 b o ?_ (s2 _ _ (s1 _ _ e))) (s1.free hh) h3⟩
        exact ne_of_none (s1 _ _ e) hh
end
end NT
end
section
set_option Elab.async false
set_option linter.all false
set_option maxRecDepth 100000
set_option maxHeartbeats 2000000
namespace NT
open PySem PySem.Spec PyProof.Rows L2
open Su115 (Abs)
open TM
abbrev sPC : Stmt := top 13
abbrev sCB : Stmt := top 14
theorem bt_set : bootBuiltins "set" = some (.type "set") := by decide +kernel
/-- the row of hours -/
def hrs (hs : List Nat) (q : Nat) : Nat := hs.getD q 0
theorem hrs_at {hs : List Nat} {q : Nat} (h : q < hs.length) : (hs.map I)[q]? = some (I (hrs hs q)) := by
  unfold hrs
  rw [List.getElem?_map, List.getD_eq_getElem?_getD, List.getElem?_eq_getElem h]
  rfl
/-- nobody is told by t, or t is the one who told p -/
def From (a : Abs) (p t : Nat) : Prop := t ∉ a.near p ∨ ¬ Pt a p t t
def spPC (n : Nat) : Sp := fun vs H Q _ => ∃ (j h : Addr) (a : Abs) (p t : Nat) (hs : List Nat), vs = [.ref j, I p, I t, .ref h] ∧ JAt H j a ∧ p < a.n ∧ card a p t ≤ n ∧ From a p t ∧ H h = some (.lst (hs.map I)) ∧ hs.length = a.n ∧
  ∀ H', Same H H' → Q (.bl (Cp a (hrs hs) p t)) H'
theorem nodup_cast : ∀ l : List Nat, (l.map fun (n : Nat) => (n : Int)).Nodup ↔ l.Nodup
  | [] => by simp
  | x :: l => by
    rw [List.map_cons, List.nodup_cons, List.nodup_cons, nodup_cast l]
    refine and_congr_left fun _ => not_congr ⟨fun h => ?_, fun h => List.mem_map.mpr ⟨x, h, rfl⟩⟩
    obtain ⟨y, hy, e⟩ := List.mem_map.mp h
    have e : y = x := by omega
    exact e ▸ hy
section
variable {P : Program} {w : World} {K : PySem.W.Frag} {mg : Str → Option Value} {base : Heap}
theorem scPC : FnScope ["joined", "person", "teller", "hours", "others", "told", "other"] ["joined", "person", "teller", "hours"] (defScope sPC) := ⟨rfl, rfl, rfl, by decide +kernel, rfl, by decide +kernel, by decide +kernel⟩
theorem ok_pc {f : Addr} {fd : FuncData} {n k : Nat} (F : Fun K "part_could" "part_could" sPC f fd) (B : Bt mg) (S : Df P w K mg base "side" ["joined", "person", "teller"] 2 spSide) (hk : 2 ≤ k)
    (G : Df P w K mg base "part_could" ["joined", "person", "teller", "hours"] k (spPC n)) : FnOk P w K mg base CX0 (k + 1) f fd ["joined", "person", "teller", "hours"] (spPC (n + 1)) := by
  obtain ⟨g, gd, G, bG, kG, mG⟩ := G.ex
  obtain ⟨sf, sd, S, bS, kS, mS⟩ := S.ex
  refine F.ok scPC (fun vs H Q E h => ?_) (fun cdv A outer s H vs Q E hr h => ?_)
  · obtain ⟨j, h, a, p, q, hs, rfl, _⟩ := h
    rfl
  · obtain ⟨j, h, a, p, t, hs, rfl, hj, hp, hc, hfr, hh, hsl, kk⟩ := h
    have hr2 : Room 2 _ := hr.mono hk
    refine ⟨_, pss_cons (ps_set (i := 4) scPC.nd rfl (Or.inl rfl) (pe_call S hr2 rfl mS kS bS .nil pass0 (pa_cons (pv 0) (pa_cons (pv 1) (pa_cons (pv 2) pa_nil)))))
      (pss_cons (ps_setLc (i := 5) (own := [("other", 6)]) (te := tOp (rIxL K) (tVar 3) (tVar 6)) rfl scPC.nd rfl rfl (sw_true rfl rfl rfl rfl) (pi_list (pv 4)) (blkOk_by (by show blkC ["joined", "person", "teller", "hours", "others", "told", "other"] (defScope sPC) _ _ = true; decide +kernel))
        (fun _ _ _ _ _ => pg_name (i := 6) scPC.nd rfl (Or.inl rfl)) (fun _ _ _ _ _ => pts_nil) (fun _ _ _ _ _ => pe_ix ix_list (pv 3) (pv 6) (fun _ _ => rfl)))
      (pss_cons (ps_if (pt_cmpR op_le (pe_minD rfl rfl B.min (pv 5) (pe_op op_add (pe_ix ix_list (pv 3) (pv 1) (fun _ _ => rfl)) pe_int)) (pe_ix ix_list (pv 3) (pv 1) (fun _ _ => rfl)) (nomark _)) (pss_one (ps_ret pe_bl)) pss_nil)
      (pss_cons (ps_if (pt_cmpR op_lt (pe_callB cr_lenSet rfl B.len PySem.boot_len (pa_cons (pe_callTy (cr_setOf rfl) rfl B.set bt_set (pa_cons (pv 5) pa_nil)) pa_nil)) (pe_callB call_len_seq rfl B.len PySem.boot_len (pa_cons (pv 5) pa_nil)) (nomark _)) (pss_one (ps_ret pe_bl)) pss_nil)
      (pss_one (ps_ret (pe_callB (cr_all rfl) rfl B.all bt_all (pa_cons (pe_lc (own := [("other", 6)]) rfl scPC.nd (pi_list (pv 4)) (blkOk_by (by show blkC ["joined", "person", "teller", "hours", "others", "told", "other"] (defScope sPC) _ _ = true; decide +kernel))
        (fun _ _ _ _ _ => pg_name (i := 6) scPC.nd rfl (Or.inl rfl)) (fun _ _ _ _ _ => pts_nil)
        (fun _ _ _ _ _ => pe_call G hr rfl mG kG bG .nil pass0 (pa_cons (pv 0) (pa_cons (pv 6) (pa_cons (pv 1) (pa_cons (pv 3) pa_nil)))))) pa_nil))))))), ?_⟩
    have hwf := hj.wf
    have hle := hj.le
    have hlen := side_len (a := a) (p := p) (t := t)
    have cp := cp_eq hwf (h := hrs hs) hp hfr
    refine ⟨_, rfl, _, rfl, _, rfl, j, a, p, t, rfl, hj, hp, fun H1 r s1 hr0 hl => ?_⟩
    refine ⟨_, rfl, r, rfl, ⟨_, SqL.of hl⟩, ?_⟩
    intro D hD
    refine lc_list (K := K) (a := r) (xs := (side a p t).map I) (fun i H' => Same H1 H' ∧ H' D = some (.lst (((side a p t).take i).map fun q => I (hrs hs q)))) ⟨same_new hD _, upd_same⟩ (fun i H' _ ⟨s2, _⟩ => SqL.of (s2 _ _ hl)) ?_ ?_
    · rintro i x H' hx ⟨s2, hd⟩
      obtain ⟨q, hq, rfl⟩ := map_at hx
      have mq := List.mem_of_getElem? hq
      obtain ⟨m1, m2⟩ := mem_side.mp mq
      refine ⟨rfl, yes_of ?_⟩
      refine ⟨_, rfl, _, rfl, h, _, _, _, rfl, rfl, SqL.of (s2 _ _ (s1 _ _ hh)), atI_nat (hrs_at (by rw [hsl]; exact near_lt m1)), _, hd, ?_, s2.grow hD, ?_⟩
      · rw [List.length_map, List.length_take]
        exact sized (by omega)
      · rw [upd_same, take_succ_map (f := fun q => I (hrs hs q)) hq]
    · rintro H2 ⟨s2, hd⟩
      rw [List.length_map, List.take_length] at hd
      have e1 : ((side a p t).map fun q => I (hrs hs q)) = ((side a p t).map fun q => ((hrs hs q : Nat) : Int)).map V.int := by rw [List.map_map]; rfl
      rw [e1] at hd
      have hh2 := s2 _ _ (s1 _ _ hh)
      have hpl : p < hs.length := by rw [hsl]; exact hp
      have last : ∀ (b : Bool) H', Same H2 H' → Cp a (hrs hs) p t = b → Q (.bl b) H' := fun b H' s3 e => by
        rw [← e]
        exact kk H' ((s1.trans s2).trans s3)
      refine ⟨_, rfl, _, rfl, _, rfl, h, _, _, _, rfl, rfl, SqL.of hh2, atI_nat (hrs_at hpl), _, _, rfl, rfl, D, _, _, rfl, rfl, SqL.of hd, fun e0 => ?_, fun m hm1 hm2 => ?_⟩
      case' refine_1 =>
        have key : ((hrs hs p : Nat) : Int) + 1 ≤ ((hrs hs p : Nat) : Int) ↔ ¬ ∀ q ∈ side a p t, hrs hs p < hrs hs q := by
          have e0 : side a p t = [] := List.map_eq_nil_iff.mp e0
          rw [e0]
          exact ⟨fun z => by omega, fun z => absurd (fun q hq => by cases hq) z⟩
      case' refine_2 =>
        have key : m ≤ ((hrs hs p : Nat) : Int) ↔ ¬ ∀ q ∈ side a p t, hrs hs p < hrs hs q := by
          obtain ⟨q, hq, rfl⟩ := List.mem_map.mp hm1
          constructor
          · intro z y
            have := y q hq
            omega
          · intro z
            by_cases c : ((hrs hs q : Nat) : Int) ≤ ((hrs hs p : Nat) : Int)
            · exact c
            · refine absurd (fun y hy => ?_) z
              have := hm2 _ (List.mem_map.mpr ⟨y, hy, rfl⟩)
              omega
      all_goals
        refine ⟨_, rfl, _, rfl, h, _, _, _, rfl, rfl, SqL.of hh2, atI_nat (hrs_at hpl), _, _, rfl, rfl, _, rfl, ?_⟩
        refine ite2 (fun c => ?_) (fun c => ?_)
        · have nall := key.mp (of_decide_eq_true c)
          refine last false H2 (Same.refl _) ?_
          rw [cp]
          refine Bool.eq_false_iff.mpr fun z => nall fun q hq => ?_
          rw [Bool.and_eq_true, Bool.and_eq_true, List.all_eq_true] at z
          exact of_decide_eq_true (z.1.1 q hq)
        · have hall : ∀ q ∈ side a p t, hrs hs p < hrs hs q := by
            by_cases z : ∀ q ∈ side a p t, hrs hs p < hrs hs q
            · exact z
            · exact absurd (decide_eq_true (key.mpr z)) c
          have c1 : (side a p t).all (fun q => decide (hrs hs p < hrs hs q)) = true := List.all_eq_true.mpr fun q hq => decide_eq_true (hall q hq)
          have hln : ((side a p t).map fun q => ((hrs hs q : Nat) : Int)).length = (side a p t).length := List.length_map _
          refine ⟨_, rfl, D, _, rfl, SqL.of hd, by rw [hln]; omega, fun z S n hz hn hiff => ?_⟩
          have s3 := same_new hz (.set S n)
          have hd3 := s3 _ _ hd
          refine ⟨z, S, n, rfl, upd_same, _, rfl, D, _, rfl, .inl (SqL.of hd3), _, _, rfl, rfl, _, rfl, ?_⟩
          rw [List.length_map]
          have nd : ((side a p t).map fun q => ((hrs hs q : Nat) : Int)).Nodup ↔ ((side a p t).map (hrs hs)).Nodup := by
            rw [show ((side a p t).map fun q => ((hrs hs q : Nat) : Int)) = ((side a p t).map (hrs hs)).map fun (n : Nat) => (n : Int) from by rw [List.map_map]; rfl]
            exact nodup_cast _
          refine ite2 (fun c2 => ?_) (fun c2 => ?_)
          · have lt : (n : Int) < _ := of_decide_eq_true c2
            refine last false _ s3 ?_
            rw [cp, c1]
            have : decide (((side a p t).map (hrs hs)).Nodup) = false := decide_eq_false fun y => by
              have := hiff.mpr (nd.mpr y)
              omega
            rw [this]
            rfl
          · have c3 : decide (((side a p t).map (hrs hs)).Nodup) = true := decide_eq_true (nd.mp (hiff.mp (by
              have := of_decide_eq_false (Bool.eq_false_iff.mpr c2)
              omega)))
            refine ⟨_, rfl, r, rfl, ⟨_, SqL.of (s3 _ _ (s2 _ _ hl))⟩, ?_⟩
            intro D2 hD2
            have hl3 := s3 _ _ (s2 _ _ hl)
            refine lc_list (K := K) (a := r) (xs := (side a p t).map I) (fun i H' => Same (upd H2 z (.set S n)) H' ∧ H' D2 = some (.lst (((side a p t).take i).map fun q => V.bl (Cp a (hrs hs) q p)))) ⟨same_new hD2 _, upd_same⟩ (fun i H' _ ⟨s4, _⟩ => SqL.of (s4 _ _ hl3)) ?_ ?_
            · rintro i x H' hx ⟨s4, hd4⟩
              obtain ⟨q, hq, rfl⟩ := map_at hx
              have mq := List.mem_of_getElem? hq
              obtain ⟨m1, m2⟩ := mem_side.mp mq
              refine ⟨rfl, yes_of ?_⟩
              refine ⟨_, rfl, _, rfl, _, rfl, _, rfl, j, h, a, q, p, hs, rfl, (((hj.same s1).same s2).same s3).same s4, near_lt m1, by have := card_lt hwf hp m1 m2; omega, side_ok hwf hp mq, s4 _ _ (s3 _ _ hh2), hsl, fun H5 s5 => ?_⟩
              refine ⟨_, s5 _ _ hd4, ?_, (s4.trans s5).grow hD2, ?_⟩
              · rw [List.length_map, List.length_take]
                exact sized (by omega)
              · rw [upd_same, take_succ_map (f := fun q => V.bl (Cp a (hrs hs) q p)) hq]
            · rintro H5 ⟨s4, hd4⟩
              rw [List.length_map, List.take_length] at hd4
              have e5 : ((side a p t).map fun q => V.bl (Cp a (hrs hs) q p)) = ((side a p t).map fun q => Cp a (hrs hs) q p).map V.bl := by rw [List.map_map]; rfl
              rw [e5] at hd4
              refine ⟨D2, _, rfl, SqL.of hd4, last _ _ (s3.trans s4) ?_⟩
              rw [cp, c1, c3, List.all_map]
              rfl
end
end NT
end
section
set_option Elab.async false
set_option linter.all false
set_option maxRecDepth 100000
set_option maxHeartbeats 2000000
namespace NT
open PySem PySem.Spec PyProof.Rows L2
open Su115 (Abs)
open TM
def spCB : Sp := fun vs H Q _ => ∃ (j h : Addr) (a : Abs) (p : Nat) (hs : List Nat), vs = [.ref j, I p, .ref h] ∧ JAt H j a ∧ p < a.n ∧ H h = some (.lst (hs.map I)) ∧ hs.length = a.n ∧ ∀ H', Same H H' → Q (.bl (a.could p hs)) H'
section
variable {P : Program} {w : World} {K : PySem.W.Frag} {mg : Str → Option Value} {base : Heap}
theorem scCB : FnScope ["joined", "person", "hours"] ["joined", "person", "hours"] (defScope sCB) := ⟨rfl, rfl, rfl, by decide +kernel, rfl, by decide +kernel, by decide +kernel⟩
theorem ok_cb {f : Addr} {fd : FuncData} {k : Nat} (F : Fun K "could_be" "could_be" sCB f fd) (G : Df P w K mg base "part_could" ["joined", "person", "teller", "hours"] k (spPC 14)) : FnOk P w K mg base CX0 (k + 1) f fd ["joined", "person", "hours"] spCB := by
  obtain ⟨g, gd, G, bG, kG, mG⟩ := G.ex
  refine F.ok scCB (fun vs H Q E h => ?_) (fun cdv A outer s H vs Q E hr h => ?_)
  · obtain ⟨j, h, a, p, hs, rfl, _⟩ := h
    rfl
  · obtain ⟨j, h, a, p, hs, rfl, hj, hp, hh, hsl, kk⟩ := h
    refine ⟨_, pss_one (ps_ret (pe_and (pe_cmpR op_eq (pe_ix ix_list (pv 2) (pv 1) (fun _ _ => rfl)) pe_int (nomark _)) (pe_one (pe_call G hr rfl mG kG bG .nil pass0 (pa_cons (pv 0) (pa_cons (pv 1) (pa_cons (pv 1) (pa_cons (pv 2) pa_nil)))))))), ?_⟩
    have hpl : p < hs.length := by rw [hsl]; exact hp
    have e := could_eq hj.wf hp hsl
    refine ⟨_, rfl, _, rfl, h, _, _, _, rfl, rfl, SqL.of hh, atI_nat (hrs_at hpl), rfl, _, rfl, ?_⟩
    refine ite2 (fun c => ?_) (fun c => ?_)
    · have c' : hrs hs p = 0 := by
        have := V.int.inj (of_decide_eq_true c)
        omega
      refine ⟨_, rfl, _, rfl, _, rfl, _, rfl, j, h, a, p, p, hs, rfl, hj, hp, Nat.le_trans card_le hj.le, .inl (near_self hp), hh, hsl, fun H' s' => ?_⟩
      have e' : a.could p hs = Cp a (hrs hs) p p := by
        rw [e, decide_eq_true (show hs.getD p 0 = 0 from c')]
        rfl
      rw [← e']
      exact kk H' s'
    · have c' : ¬ hrs hs p = 0 := fun z => c (decide_eq_true (by unfold I; rw [z]; rfl))
      have e' : a.could p hs = false := by
        rw [e, decide_eq_false (show ¬ hs.getD p 0 = 0 from c')]
        rfl
      have := kk H (Same.refl _)
      rw [e'] at this
      exact this
/-! ### by induction over the parts -/
theorem none0 {f : Addr} {fd : FuncData} {ps : List Str} {sp : Sp} {k : Nat} (no : ∀ vs H Q E, ¬ sp vs H Q E) : FnOk P w K mg base CX0 k f fd ps sp :=
  ⟨fun vs H Q E h => absurd h (no vs H Q E), fun A outer s H args us vs Q E _ _ _ _ h => absurd h (no vs H Q E)⟩
/-- a def of the text that is there -/
structure Here (K : PySem.W.Frag) (mg : Str → Option Value) (x : Str) (ps : List Str) (st : Stmt) : Prop where
  ex : ∃ (f : Addr) (fd : FuncData), Fun K x x st f fd ∧ L2.Binds K fd ps [] ∧ mg x = some (.ref f)
theorem Here.df {x : Str} {ps : List Str} {st : Stmt} {k : Nat} {sp : Sp} (h : Here K mg x ps st) (ok : ∀ f fd, Fun K x x st f fd → FnOk P w K mg base CX0 k f fd ps sp) : Df P w K mg base x ps k sp := by
  obtain ⟨f, fd, F, b, m⟩ := h.ex
  exact ⟨f, fd, ok f fd F, b, F.kp, m⟩
theorem Df.imp {x : Str} {ps : List Str} {k : Nat} {sp sp' : Sp} (d : Df P w K mg base x ps k sp) (h : ∀ vs H Q E, sp' vs H Q E → sp vs H Q E) : Df P w K mg base x ps k sp' := by
  obtain ⟨f, fd, F, r⟩ := d.ex
  exact ⟨f, fd, F.imp h, r⟩
theorem Df.mono {x : Str} {ps : List Str} {k m : Nat} {sp : Sp} (d : Df P w K mg base x ps k sp) (h : k ≤ m) : Df P w K mg base x ps m sp := by
  obtain ⟨f, fd, F, r⟩ := d.ex
  exact ⟨f, fd, F.mono h, r⟩
abbrev p3 : List Str := ["joined", "person", "teller"]
structure TreeTxt (K : PySem.W.Frag) (mg : Str → Option Value) : Prop where
  bt : Bt mg
  jn : Here K mg "are_joined" ["joined", "one", "other"] sJn
  side : Here K mg "side" p3 sSide
  size : Here K mg "size" p3 sSize
  rank : Here K mg "ranked" p3 sRank
  need : Here K mg "need" p3 sNeed
  co : Here K mg "calling_order" p3 sCO
  tell : Here K mg "tell" ["joined", "person", "teller", "hours"] sTell
  ph : Here K mg "plan_hours" ["joined", "person"] sPH
  pc : Here K mg "part_could" ["joined", "person", "teller", "hours"] sPC
  cb : Here K mg "could_be" ["joined", "person", "hours"] sCB
variable (T : TreeTxt K mg)
include T
theorem df_jn : Df P w K mg base "are_joined" ["joined", "one", "other"] 1 spJn := T.jn.df fun _ _ F => ok_jn F
theorem df_side : Df P w K mg base "side" p3 2 spSide := T.side.df fun _ _ F => ok_side F T.bt (df_jn T)
theorem df_size : ∀ n : Nat, Df P w K mg base "size" p3 (n + 2) (spSize n)
  | 0 => T.size.df fun _ _ _ => none0 fun vs H Q E h => by
    obtain ⟨j, a, p, t, _, hj, hp, hc, _⟩ := h
    have := card_pos hj.wf (s := t) hp
    omega
  | n + 1 => T.size.df fun _ _ F => ok_size F T.bt (df_side T) (df_size n) (by omega)
theorem df_need : ∀ n : Nat, Df P w K mg base "need" p3 (2 * n + 2) (spNeed n) ∧ Df P w K mg base "ranked" p3 (2 * n + 1) (spRank n)
  | 0 => ⟨T.need.df fun _ _ _ => none0 fun vs H Q E h => by
      obtain ⟨j, a, p, t, _, hj, hp, hc, _⟩ := h
      have := card_pos hj.wf (s := t) hp
      omega, T.rank.df fun _ _ _ => none0 fun vs H Q E h => by
      obtain ⟨j, a, p, t, _, hj, hp, hc, _⟩ := h
      have := card_pos hj.wf (s := t) hp
      omega⟩
  | n + 1 => by
    have r : Df P w K mg base "ranked" p3 (2 * n + 2 + 1) (spRank (n + 1)) := T.rank.df fun _ _ F => ok_rank F T.bt (df_side T) (df_need n).1 (by omega)
    exact ⟨T.need.df fun _ _ F => ok_need F T.bt r, r⟩
theorem df_co : Df P w K mg base "calling_order" p3 30 (spCO 14) := T.co.df fun _ _ F => ok_co F T.bt (df_need T 14).2
theorem df_tell : ∀ n : Nat, n ≤ 14 → Df P w K mg base "tell" ["joined", "person", "teller", "hours"] (n + 30) (spTell n)
  | 0, _ => T.tell.df fun _ _ _ => none0 fun vs H Q E h => by
    obtain ⟨j, h, a, p, t, hs, u, _, hj, _, hp, hc, _⟩ := h
    have := card_pos hj.wf (s := t) hp
    omega
  | n + 1, hn => T.tell.df fun _ _ F => ok_tell F T.bt ((df_co T).imp fun vs H Q E h => by
      obtain ⟨j, a, p, t, e, hj, hp, hc, k⟩ := h
      exact ⟨j, a, p, t, e, hj, hp, by omega, k⟩) (by omega) (df_tell n (by omega))
theorem df_ph : Df P w K mg base "plan_hours" ["joined", "person"] 45 spPH := T.ph.df fun _ _ F => ok_ph F T.bt (Nat.le_refl _) (df_tell T 14 (Nat.le_refl _))
theorem df_pc : ∀ n : Nat, Df P w K mg base "part_could" ["joined", "person", "teller", "hours"] (n + 2) (spPC n)
  | 0 => T.pc.df fun _ _ _ => none0 fun vs H Q E h => by
    obtain ⟨j, h, a, p, t, hs, _, hj, hp, hc, _⟩ := h
    have := card_pos hj.wf (s := t) hp
    omega
  | n + 1 => T.pc.df fun _ _ F => ok_pc F T.bt (df_side T) (by omega) (df_pc n)
theorem df_cb : Df P w K mg base "could_be" ["joined", "person", "hours"] 17 spCB := T.cb.df fun _ _ F => ok_cb F (df_pc T 14)
end
end NT
end
section
set_option Elab.async false
set_option linter.all false
set_option maxRecDepth 100000
set_option maxHeartbeats 2000000
namespace NT
open PySem PySem.Spec PyProof.Rows L2
open Su115 (Abs)
open TM
abbrev sEnds : Stmt := top 4
abbrev sWay : Stmt := top 5
abbrev sHE : Stmt := top 9
/-- the ends among the first i -/
def endsTo (a : Abs) (i : Nat) : List Nat := (List.range i).filter fun p => (a.near p).length == 1
theorem endsTo_succ (a : Abs) (i : Nat) : endsTo a (i + 1) = endsTo a i ++ (if ((a.near i).length == 1) = true then [i] else []) := by
  unfold endsTo
  rw [List.range_succ, List.filter_append]
  by_cases h : ((a.near i).length == 1) = true
  · rw [if_pos h, List.filter_cons, if_pos h, List.filter_nil]
  · rw [if_neg h, List.filter_cons, if_neg h, List.filter_nil]
theorem endsTo_len (a : Abs) (i : Nat) : (endsTo a i).length ≤ i := Nat.le_trans (List.length_filter_le _ _) (by rw [List.length_range]; exact Nat.le_refl _)
theorem endsTo_n (a : Abs) : endsTo a a.n = a.ps.filter fun p => (a.near p).length == 1 := rfl
def spEnds : Sp := fun vs H Q _ => ∃ (j : Addr) (a : Abs), vs = [.ref j] ∧ JAt H j a ∧ newL H Q (endsTo a a.n)
def spWay : Sp := fun vs H Q _ => ∃ (j : Addr) (a : Abs) (p q : Nat), vs = [.ref j, I p, I q] ∧ JAt H j a ∧ p < a.n ∧ q < a.n ∧ newL H Q (a.path p q)
def spHE : Sp := fun vs H Q _ => ∃ (j : Addr) (a : Abs), vs = [.ref j] ∧ JAt H j a ∧ newL H Q (a.ps.map a.from_)
theorem cast_I (l : List Nat) : (l.map fun (n : Nat) => (n : Int)).map V.int = l.map I := by rw [List.map_map]; rfl
section
variable {P : Program} {w : World} {K : PySem.W.Frag} {mg : Str → Option Value} {base : Heap}
theorem scEnds : FnScope ["joined", "person"] ["joined"] (defScope sEnds) := ⟨rfl, rfl, rfl, by decide +kernel, rfl, by decide +kernel, by decide +kernel⟩
theorem ok_ends {f : Addr} {fd : FuncData} {k : Nat} (F : Fun K "ends" "ends" sEnds f fd) (B : Bt mg) (S : Df P w K mg base "side" ["joined", "person", "teller"] k spSide) : FnOk P w K mg base CX0 (k + 1) f fd ["joined"] spEnds := by
  obtain ⟨g, gd, S, bS, kS, mS⟩ := S.ex
  refine F.ok scEnds (fun vs H Q E h => ?_) (fun cdv A outer s H vs Q E hr h => ?_)
  · obtain ⟨j, a, rfl, _⟩ := h
    rfl
  · obtain ⟨j, a, rfl, hj, kk⟩ := h
    refine ⟨_, pss_one (ps_ret (pe_lc (own := [("person", 1)])
      (tt := tTest (tOp rEq (tCB (fun xs H Q => ∃ p ys, xs = [V.ref p] ∧ (SqL K H p ys ∨ SqT K H p ys) ∧ Q (V.int ys.length) H) (tCons (tCall spSide [] E0 (tCons (tVar 0) (tCons (tVar 1) (tCons (tVar 1) tNil)))) tNil)) (tC (.int 1))))
      rfl scEnds.nd (pi_range1 rfl B.range (pa_cons (pe_callB call_len_seq rfl B.len PySem.boot_len (pa_cons (pv 0) pa_nil)) pa_nil)) (blkOk_by (by show blkC ["joined", "person"] (defScope sEnds) _ _ = true; decide +kernel))
      (fun _ _ _ _ _ => pg_name (i := 1) scEnds.nd rfl (Or.inl rfl))
      (fun _ _ _ _ _ => pts_one (pt_cmpR op_eq (pe_callB call_len_seq rfl B.len PySem.boot_len (pa_cons (pe_call S hr rfl mS kS bS .nil pass0 (pa_cons (pv 0) (pa_cons (pv 1) (pa_cons (pv 1) pa_nil)))) pa_nil)) pe_int (nomark _)))
      (fun _ _ _ _ _ => pv 1))), ?_⟩
    have hn := hj.le
    refine ⟨_, rfl, j, _, rfl, .inl (SqL.of hj.lst), _, rfl, by rw [jv_len]; omega, by rw [jv_len]; omega, ?_⟩
    intro D hD
    refine lc_range (fun i H' => Same H H' ∧ H' D = some (.lst ((endsTo a i).map I))) ⟨same_new hD _, upd_same⟩ ?_ ?_
    · rintro i H' hi ⟨s1, hl⟩
      have hi : i < a.n := by rw [jv_len] at hi; simpa using hi
      have e0 : V.int (0 + (i : Int)) = I i := by rw [Int.zero_add]; rfl
      refine ⟨rfl, _, rfl, _, rfl, _, rfl, j, a, i, i, ?_, hj.same s1, hi, fun H2 r s2 hr0 hrr => ?_⟩
      · show [V.ref j, V.int (0 + (i : Int)), V.int (0 + (i : Int))] ++ [] = _
        rw [e0]
        rfl
      · rw [side_nobody (near_self hi)] at hrr
        refine ⟨r, _, rfl, .inl (SqL.of hrr), rfl, _, rfl, ?_⟩
        rw [List.length_map]
        have hlen : ((endsTo a i).map I).length < sizeLine := by
          have := endsTo_len a i
          rw [List.length_map]
          exact sized (by omega)
        refine ite2 (fun c => ?_) (fun c => ?_)
        · have c' : ((a.near i).length == 1) = true := by
            have := V.int.inj (of_decide_eq_true c)
            rw [beq_iff_eq]
            omega
          refine ⟨_, rfl, _, s2 _ _ hl, hlen, (s1.trans s2).grow hD, ?_⟩
          rw [upd_same, endsTo_succ, if_pos c', e0, List.map_append]
          rfl
        · have c' : ¬ ((a.near i).length == 1) = true := fun z => c (decide_eq_true (by rw [beq_iff_eq.mp z]; rfl))
          refine ⟨s1.trans s2, ?_⟩
          rw [endsTo_succ, if_neg c', List.append_nil]
          exact s2 _ _ hl
    · rintro H' ⟨s1, hl⟩
      rw [jv_len] at hl
      have hl : H' D = some (.lst ((endsTo a a.n).map I)) := hl
      exact kk H' D s1 hD hl
theorem scHE : FnScope ["joined", "person"] ["joined"] (defScope sHE) := ⟨rfl, rfl, rfl, by decide +kernel, rfl, by decide +kernel, by decide +kernel⟩
theorem ok_he {f : Addr} {fd : FuncData} {k : Nat} (F : Fun K "hours_from_each" "hours_from_each" sHE f fd) (B : Bt mg) (G : Df P w K mg base "need" ["joined", "person", "teller"] k (spNeed 14)) : FnOk P w K mg base CX0 (k + 1) f fd ["joined"] spHE := by
  obtain ⟨g, gd, G, bG, kG, mG⟩ := G.ex
  refine F.ok scHE (fun vs H Q E h => ?_) (fun cdv A outer s H vs Q E hr h => ?_)
  · obtain ⟨j, a, rfl, _⟩ := h
    rfl
  · obtain ⟨j, a, rfl, hj, kk⟩ := h
    refine ⟨_, pss_one (ps_ret (pe_lc (own := [("person", 1)]) rfl scHE.nd (pi_range1 rfl B.range (pa_cons (pe_callB call_len_seq rfl B.len PySem.boot_len (pa_cons (pv 0) pa_nil)) pa_nil)) (blkOk_by (by show blkC ["joined", "person"] (defScope sHE) _ _ = true; decide +kernel))
      (fun _ _ _ _ _ => pg_name (i := 1) scHE.nd rfl (Or.inl rfl))
      (fun _ _ _ _ _ => pts_nil)
      (fun _ _ _ _ _ => pe_call G hr rfl mG kG bG .nil pass0 (pa_cons (pv 0) (pa_cons (pv 1) (pa_cons (pv 1) pa_nil)))))), ?_⟩
    have hn := hj.le
    refine ⟨_, rfl, j, _, rfl, .inl (SqL.of hj.lst), _, rfl, by rw [jv_len]; omega, by rw [jv_len]; omega, ?_⟩
    intro D hD
    refine lc_range (fun i H' => Same H H' ∧ H' D = some (.lst (((List.range i).map a.from_).map I))) ⟨same_new hD _, upd_same⟩ ?_ ?_
    · rintro i H' hi ⟨s1, hl⟩
      have hi : i < a.n := by rw [jv_len] at hi; simpa using hi
      have e0 : V.int (0 + (i : Int)) = I i := by rw [Int.zero_add]; rfl
      refine ⟨rfl, yes_of ?_⟩
      refine ⟨_, rfl, _, rfl, _, rfl, j, a, i, i, ?_, hj.same s1, hi, Nat.le_trans card_le hj.le, fun H2 s2 => ?_⟩
      · show [V.ref j, V.int (0 + (i : Int)), V.int (0 + (i : Int))] ++ [] = _
        rw [e0]
        rfl
      · refine ⟨_, s2 _ _ hl, ?_, (s1.trans s2).grow hD, ?_⟩
        · rw [List.length_map, List.length_map, List.length_range]
          exact sized (by omega)
        · rw [upd_same, List.range_succ, List.map_append, List.map_append, hr_nobody hj.wf hi]
          rfl
    · rintro H' ⟨s1, hl⟩
      rw [jv_len] at hl
      have hl : H' D = some (.lst (((List.range a.n).map a.from_).map I)) := hl
      exact kk H' D s1 hD hl
theorem scWay : FnScope ["joined", "one", "other", "passed", "greater"] ["joined", "one", "other"] (defScope sWay) := ⟨rfl, rfl, rfl, by decide +kernel, rfl, by decide +kernel, by decide +kernel⟩
theorem max_if (x y : Nat) : (if ((y : Nat) : Int) > (x : Int) then ((y : Nat) : Int) else (x : Int)) = ((max x y : Nat) : Int) := by
  by_cases h : y > x
  · rw [if_pos (by omega)]; omega
  · rw [if_neg (by omega)]; omega
theorem min_if (x y : Nat) : (if ((y : Nat) : Int) < (x : Int) then ((y : Nat) : Int) else (x : Int)) = ((min x y : Nat) : Int) := by
  by_cases h : y < x
  · rw [if_pos (by omega)]; omega
  · rw [if_neg (by omega)]; omega
theorem ok_way {f : Addr} {fd : FuncData} (F : Fun K "way" "way" sWay f fd) (B : Bt mg) : FnOk P w K mg base CX0 1 f fd ["joined", "one", "other"] spWay := by
  refine F.ok scWay (fun vs H Q E h => ?_) (fun cdv A outer s H vs Q E hr h => ?_)
  · obtain ⟨j, a, p, q, rfl, _⟩ := h
    rfl
  · obtain ⟨j, a, p, q, rfl, hj, hp, hq, kk⟩ := h
    refine ⟨_, pss_cons (ps_set (i := 3) scWay.nd rfl (Or.inl rfl) (pe_lst pa_nil))
      (pss_cons (ps_while PassesOwn.never (pt_cmpR op_ne (pv 1) (pv 2) (nomark _))
        (pss_cons (ps_set (i := 4) scWay.nd rfl (Or.inl rfl) (pe_callB (call_max2 rfl) rfl B.max bt_max (pa_cons (pv 1) (pa_cons (pv 2) pa_nil))))
        (pss_cons (ps_expr (pe_bm PySem.F.plainAttrs_list PySem.F.slot_list_append PySem.F.type_list_append mt_append (pv 3) (pa_cons (pv 4) pa_nil)))
        (pss_cons (ps_set (i := 2) scWay.nd rfl (Or.inl rfl) (pe_callB (call_min2 rfl) rfl B.min bt_min (pa_cons (pv 1) (pa_cons (pv 2) pa_nil))))
        (pss_one (ps_set (i := 1) scWay.nd rfl (Or.inl rfl) (pe_ix ix_list (pv 0) (pv 4) (fun _ _ => rfl))))))))
      (pss_cons (ps_expr (pe_bm PySem.F.plainAttrs_list PySem.F.slot_list_append PySem.F.type_list_append mt_append (pv 3) (pa_cons (pv 1) pa_nil)))
      (pss_one (ps_ret (pe_callB cr_sorted rfl B.sorted bt_sorted (pa_cons (pv 3) pa_nil)))))), ?_⟩
    have hwf := hj.wf
    have hle := hj.le
    have hpl := path_len_le a p q
    refine ⟨Nat.zero_le _, fun r hr0 => ?_⟩
    have hjr : j ≠ r := ne_of_none hj.lst hr0
    refine ⟨fun m σ H' => ∃ (x y : Nat) (l : List Nat) (v4 : Option V), σ = [some (.ref j), some (I x), some (I y), some (.ref r), v4] ∧ m = x + y ∧ x < a.n ∧ y < a.n ∧ Same H H' ∧ H' r = some (.lst (l.map I)) ∧ (l ++ a.path x y).Perm (a.path p q),
      ⟨p + q, p, q, [], none, rfl, rfl, hp, hq, same_new hr0 _, upd_same, List.Perm.refl _⟩, ?_⟩
    rintro m σ H' ⟨x, y, l, v4, rfl, rfl, hx, hy, s1, hl, hperm⟩
    have hll : l.length ≤ a.n := by
      have := hperm.length_eq
      rw [List.length_append] at this
      omega
    refine ⟨_, rfl, _, rfl, rfl, _, rfl, ite2 (fun c => ?_) (fun c => ?_)⟩
    · have c' : x ≠ y := fun z => by
        rw [z, decide_eq_true rfl] at c
        cases c
      have hg : max x y < a.n := by omega
      have h0 : 0 < max x y := by omega
      have hpar := par_lt hwf h0 hg
      refine ⟨fun σ' H2 => ∃ m', m' < x + y ∧ _, fun σ' H2 h => h, ?_⟩
      refine ⟨_, rfl, _, rfl, _, _, rfl, ?_⟩
      refine ⟨_, rfl, .inl ⟨rfl, _, SqL.of hl⟩, _, rfl, r, _, _, rfl, rfl, hl, by rw [List.length_map]; exact sized (by omega), ?_⟩
      refine ⟨_, rfl, _, rfl, _, _, rfl, ?_⟩
      have hj2 : SqL K (upd H' r (.lst (l.map I ++ [V.int (if ((y : Nat) : Int) > (x : Int) then ((y : Nat) : Int) else (x : Int))]))) j (jv a) := SqL.of (by rw [upd_ne hjr]; exact s1 _ _ hj.lst)
      have eat : atI (jv a) (if ((y : Nat) : Int) > (x : Int) then ((y : Nat) : Int) else (x : Int)) = some (I (par a (max x y))) := by
        rw [max_if, atI_nat (jv_at hg)]
        unfold upI
        rw [if_neg (by omega)]
        rfl
      refine ⟨_, rfl, _, rfl, j, _, _, _, rfl, rfl, hj2, eat, ?_⟩
      refine ⟨par a (max x y) + min x y, by omega, par a (max x y), min x y, l ++ [max x y], some (I (max x y)), ?_, rfl, by omega, by omega, s1.grow hr0, ?_, ?_⟩
      · have e1 : V.int (if ((y : Nat) : Int) > (x : Int) then ((y : Nat) : Int) else (x : Int)) = I (max x y) := congrArg V.int (max_if x y)
        have e2 : V.int (if ((y : Nat) : Int) < (x : Int) then ((y : Nat) : Int) else (x : Int)) = I (min x y) := congrArg V.int (min_if x y)
        rw [← e1, ← e2]
        rfl
      · rw [upd_same, max_if, List.map_append]
        rfl
      · rw [List.append_assoc]
        exact ((path_any hwf hx hy c').symm.append_left l).trans hperm
    · have c' : x = y := by
        by_cases z : x = y
        · exact z
        · exact absurd (by rw [decide_eq_false (show ¬ I x = I y from fun e => z (I_inj e))]; rfl) c
      subst c'
      rw [path_self hwf hx] at hperm
      refine ⟨_, rfl, .inl ⟨rfl, _, SqL.of hl⟩, _, rfl, r, _, _, rfl, rfl, hl, by rw [List.length_map]; exact sized (by omega), ?_⟩
      have el : (l.map I ++ [I x]) = ((l ++ [x]).map fun (n : Nat) => (n : Int)).map V.int := by rw [cast_I, List.map_append]; rfl
      rw [el]
      refine ⟨_, rfl, r, _, rfl, SqL.of upd_same, ?_, fun ns z h1 h2 h3 => ?_⟩
      · rw [List.length_map, List.length_append, List.length_singleton]
        omega
      · have e := sorted_cast (path_sorted a p q) hperm h1 h2
        have s2 := s1.grow (o := .lst (((l ++ [x]).map fun (n : Nat) => (n : Int)).map V.int)) hr0
        refine kk _ z (s2.trans (same_new h3 _)) (s2.free h3) ?_
        rw [upd_same, e, cast_I]
end
end NT
end
section
set_option Elab.async false
set_option linter.all false
set_option maxRecDepth 100000
set_option maxHeartbeats 2000000
namespace NT
open PySem PySem.Spec PyProof.Rows L2
open Su115 (Abs Call)
open TM NM
abbrev sCL : Stmt := top 47
abbrev sAnw : Stmt := top 48
abbrev sAns : Stmt := top 49
/-- the people as they stand: nobody till there's a begin -/
def SAt (H : Hp) (j : Addr) : Option Abs → Prop
  | none => H j = some (.lst [])
  | some a => JAt H j a
theorem SAt.sb {H H' : Hp} {j h : Addr} {s : Option Abs} (x : SAt H j s) (n : j ≠ h) (k : SameBut h H H') : SAt H' j s := by
  cases s with
  | none => exact k _ _ n x
  | some a => exact JAt.sb x n k
theorem SAt.same {H H' : Hp} {j : Addr} {s : Option Abs} (x : SAt H j s) (k : Same H H') : SAt H' j s := by
  cases s with
  | none => exact k _ _ x
  | some a => exact JAt.same x k
/-- what an int constant of the top is worth -/
def Cst (mg : Str → Option Value) (x : Str) (z : Int) : Prop := ∃ t, mg x = some (.int z t)
/-- a tuple of ints of the top -/
def CstT (K : PySem.W.Frag) (mg : Str → Option Value) (x : Str) (xs : List V) : Prop := ∃ a, mg x = some (.ref a) ∧ ∀ H, SqT K H a xs
structure NewsTxt (K : PySem.W.Frag) (mg : Str → Option Value) : Prop where
  could : Cst mg "COULD" 6
  numbers : CstT K mg "NUMBERS" (NUM.map V.int)
def spCL (K : PySem.W.Frag) : Sp := fun vs H Q _ => ∃ (c : Addr) (ns : List Int) (i p : Nat) (args rest : List Int) (x : Call), vs = [.ref c, I i] ∧ SqL K H c (ns.map V.int) ∧ ns.drop i = (p : Int) :: (args ++ rest) ∧ Dec p args x ∧ Q (I (1 + args.length)) H
/-- answer: the state, what is answered -/
def spAnw : Sp := fun vs H Q _ => ∃ (j l : Addr) (s : Option Abs) (p : Nat) (args : List Int) (x : Call), vs = [.ref j, I p, .ref l] ∧ SAt H j s ∧ H l = some (.lst (args.map V.int)) ∧ j ≠ l ∧ Dec p args x ∧
  ∀ (H' : Hp) (r : Addr), SameBut j H H' → SAt H' j (Su115.step s x).1 → H r = none → H' r = some (.lst ((outL (Su115.step s x)).map V.int)) → Q (.ref r) H'
def spAns (K : PySem.W.Frag) : Sp := fun vs H Q _ => ∃ (a : Addr) (ns : List Int), vs = [.ref a] ∧ SqL K H a (ns.map V.int) ∧ ns.length ≤ 7700 ∧ (∀ z ∈ ns, 0 ≤ z) ∧ PySu115.answers_asked ns = true ∧ ∀ (H' : Hp) (p : Addr), H' p = some (.lst ((PySu115.answers ns).map V.int)) → Q (.ref p) H'
section
variable {P : Program} {w : World} {K : PySem.W.Frag} {mg : Str → Option Value} {base : Heap}
theorem drop_at {ns : List Int} {i : Nat} {l : List Int} (h : ns.drop i = l) (k : Nat) : ns[i + k]? = l[k]? := by
  rw [← h, List.getElem?_drop]
theorem dec_num {p : Nat} {args : List Int} {x : Call} (d : Dec p args x) : ∃ n : Nat, (NUM.map V.int)[p]? = some (I n) ∧ (p ≠ 6 → args.length = n) ∧ (p = 6 → n = 1 ∧ ∃ (a : Nat) (l : List Nat), args = (a : Int) :: (l.length : Int) :: l.map fun (n : Nat) => (n : Int)) := by
  cases d with
  | could a l h => exact ⟨1, rfl, fun z => absurd rfl z, fun _ => ⟨rfl, a, l, rfl⟩⟩
  | _ => exact ⟨_, rfl, fun _ => rfl, fun z => absurd z (by decide)⟩
theorem scCL : FnScope ["calls", "start", "call", "length"] ["calls", "start"] (defScope sCL) := ⟨rfl, rfl, rfl, by decide +kernel, rfl, by decide +kernel, by decide +kernel⟩
theorem ok_cl {f : Addr} {fd : FuncData} (F : Fun K "call_length" "call_length" sCL f fd) (T : NewsTxt K mg) : FnOk P w K mg base CX0 1 f fd ["calls", "start"] (spCL K) := by
  obtain ⟨tc, hc⟩ := T.could
  obtain ⟨an, hn, hN⟩ := T.numbers
  refine F.ok scCL (fun vs H Q E h => ?_) (fun cdv A outer s H vs Q E hr h => ?_)
  · obtain ⟨c, ns, i, p, args, rest, x, rfl, _⟩ := h
    rfl
  · obtain ⟨c, ns, i, p, args, rest, x, rfl, hs, hd, dec, kk⟩ := h
    refine ⟨_, pss_cons (ps_set (i := 2) scCL.nd rfl (Or.inl rfl) (pe_ix ix_list (pv 0) (pv 1) (fun _ _ => rfl)))
      (pss_cons (ps_set (i := 3) scCL.nd rfl (Or.inl rfl) (pe_op op_add pe_int (pe_ix ix_tup (pe_glob (v := .ref an) rfl hn rfl) (pv 2) (fun _ _ => rfl))))
      (pss_cons (ps_if (pt_cmpR op_eq (pv 2) (pe_glob (v := .int 6) rfl hc ⟨tc, rfl⟩) (nomark _))
        (pss_one (ps_set (i := 3) scCL.nd rfl (Or.inl rfl) (pe_op op_add (pe_op op_add (pv 3) pe_int) (pe_ix ix_list (pv 0) (pe_op op_add (pv 1) (pv 3)) (fun _ _ => rfl))))) pss_nil)
      (pss_one (ps_ret (pv 3))))), ?_⟩
    obtain ⟨n, hnum, h1, h2⟩ := dec_num dec
    have e0 : (ns.map V.int)[i]? = some (I p) := by
      have := drop_at hd 0
      rw [List.getElem?_map, show ns[i]? = some (p : Int) from this]
      rfl
    refine ⟨_, rfl, _, rfl, c, _, _, _, rfl, rfl, hs, atI_nat e0, ?_⟩
    refine ⟨_, rfl, an, _, _, _, rfl, rfl, hN _, atI_nat hnum, _, _, rfl, rfl, ?_⟩
    refine ⟨_, rfl, rfl, _, rfl, ?_⟩
    refine ite2 (fun cc => ?_) (fun cc => ?_)
    · have p6 : p = 6 := by
        have := V.int.inj (of_decide_eq_true cc)
        omega
      obtain ⟨rfl, a, l, rfl⟩ := h2 p6
      have e1 : (ns.map V.int)[i + 2]? = some (I l.length) := by
        have := drop_at hd 2
        rw [List.getElem?_map, show ns[i + 2]? = some (l.length : Int) from this]
        rfl
      have e2 : ((i : Int) + (1 + ((1 : Nat) : Int))) = ((i + 2 : Nat) : Int) := by omega
      have e4 : atI (ns.map V.int) ((i : Int) + (1 + ((1 : Nat) : Int))) = some (I l.length) := by
        rw [e2]
        exact atI_nat e1
      refine ⟨_, rfl, _, _, rfl, rfl, _, rfl, _, rfl, _, rfl, _, _, rfl, rfl, c, _, _, _, rfl, rfl, hs, e4, _, _, rfl, rfl, ?_⟩
      · refine ⟨_, rfl, ?_⟩
        have e3 : V.int (1 + ((1 : Nat) : Int) + 1 + (l.length : Int)) = I (1 + ((a : Int) :: (l.length : Int) :: l.map fun (n : Nat) => (n : Int)).length) := by
          unfold I
          rw [List.length_cons, List.length_cons, List.length_map]
          congr 1
          omega
        rw [← e3] at kk
        exact kk
    · have p6 : p ≠ 6 := fun z => cc (decide_eq_true (by rw [z]; rfl))
      refine ⟨_, rfl, ?_⟩
      have e3 : V.int (1 + ((n : Nat) : Int)) = I (1 + args.length) := by
        unfold I
        rw [h1 p6]
        congr 1
      rw [← e3] at kk
      exact kk
end
end NT
end
section
set_option Elab.async false
set_option linter.all false
set_option maxRecDepth 100000
set_option maxHeartbeats 2000000
namespace NT
open PySem PySem.Spec PyProof.Rows L2
open Su115 (Abs Call)
open TM NM
section
variable {P : Program} {w : World} {K : PySem.W.Frag} {mg : Str → Option Value} {base : Heap}
theorem scAns : FnScope ["calls", "joined", "given", "start", "end", "answered"] ["calls"] (defScope sAns) := ⟨rfl, rfl, rfl, by decide +kernel, rfl, by decide +kernel, by decide +kernel⟩
/-- calls[i + 1 : i + 1 + n] -/
theorem cut_args {ns : List Int} {i p : Nat} {args rest : List Int} (h : ns.drop i = (p : Int) :: (args ++ rest)) : cutV (ns.map V.int) (some ((i : Int) + 1)) (some ((i : Int) + ((1 + args.length : Nat) : Int))) = args.map V.int := by
  have hlen : ns.length = i + (1 + (args.length + rest.length)) := by
    have := congrArg List.length h
    rw [List.length_drop, List.length_cons, List.length_append] at this
    omega
  unfold cutV
  rw [show ((i : Int) + 1) = ((i + 1 : Nat) : Int) by omega, show ((i : Int) + ((1 + args.length : Nat) : Int)) = ((i + 1 + args.length : Nat) : Int) by omega]
  rw [HT.sIx_nat, HT.sIx_nat, List.length_map, show min (i + 1) ns.length = i + 1 by omega, show min (i + 1 + args.length) ns.length = i + 1 + args.length by omega, ← List.map_drop, ← List.map_take]
  have e : ns.drop (i + 1) = args ++ rest := by
    rw [← List.drop_drop, h]
    rfl
  rw [e, show i + 1 + args.length - (i + 1) = args.length by omega, List.take_left' rfl]
theorem ok_ans {f : Addr} {fd : FuncData} {k : Nat} (F : Fun K "answers" "answers" sAns f fd) (B : Bt mg) (C : Df P w K mg base "call_length" ["calls", "start"] 1 (spCL K)) (G : Df P w K mg base "answer" ["joined", "call", "numbers"] k spAnw) (hk : 1 ≤ k) : FnOk P w K mg base CX0 (k + 1) f fd ["calls"] (spAns K) := by
  obtain ⟨g, gd, G, bG, kG, mG⟩ := G.ex
  obtain ⟨cf, cd, C, bC, kC, mC⟩ := C.ex
  refine F.ok scAns (fun vs H Q E h => ?_) (fun cdv A outer s H vs Q E hr h => ?_)
  · obtain ⟨a, ns, rfl, _⟩ := h
    rfl
  · obtain ⟨a, ns, rfl, hS, hlen, hpos, hask, kk⟩ := h
    have hr1 : Room 1 _ := hr.mono hk
    obtain ⟨raw, hraw, hok, hshort⟩ := asked_raw hask
    refine ⟨_, pss_cons (ps_set (i := 1) scAns.nd rfl (Or.inl rfl) (pe_lst pa_nil)) (pss_cons (ps_set (i := 2) scAns.nd rfl (Or.inl rfl) (pe_lst pa_nil)) (pss_cons (ps_set (i := 3) scAns.nd rfl (Or.inl rfl) pe_int)
      (pss_cons (ps_while PassesOwn.never (pt_cmpR op_lt (pv 3) (pe_callB call_len_seq rfl B.len PySem.boot_len (pa_cons (pv 0) pa_nil)) (nomark _))
        (pss_cons (ps_set (i := 4) scAns.nd rfl (Or.inl rfl) (pe_op op_add (pv 3) (pe_call C hr1 rfl mC kC bC .nil pass0 (pa_cons (pv 0) (pa_cons (pv 3) pa_nil)))))
        (pss_cons (ps_set (i := 5) scAns.nd rfl (Or.inl rfl) (pe_call G hr rfl mG kG bG .nil pass0 (pa_cons (pv 1) (pa_cons (pe_ix ix_list (pv 0) (pv 3) (fun _ _ => rfl)) (pa_cons (pe_slice sl_list (pv 0) (po_some (pe_op op_add (pv 3) pe_int)) (po_some (pv 4))) pa_nil)))))
        (pss_cons (ps_expr (pe_bm PySem.F.plainAttrs_list PySem.F.slot_list_append PySem.F.type_list_append mt_append (pv 2) (pa_cons (pe_callB call_len_seq rfl B.len PySem.boot_len (pa_cons (pv 5) pa_nil)) pa_nil)))
        (pss_cons (ps_expr (pe_bm PySem.F.plainAttrs_list PySem.F.slot_list_extend PySem.F.type_list_extend mt_extend (pv 2) (pa_cons (pv 5) pa_nil)))
        (pss_one (ps_set (i := 3) scAns.nd rfl (Or.inl rfl) (pv 4))))))))
      (pss_one (ps_ret (pv 2)))))), ?_⟩
    refine ⟨Nat.zero_le _, fun j hj => ?_⟩
    have s1 := same_new hj (.lst [])
    refine ⟨Nat.zero_le _, fun gv hg => ?_⟩
    have s2 := same_new hg (.lst [])
    have hjg : j ≠ gv := fun e => by
      rw [← e, upd_same] at hg
      cases hg
    refine ⟨fun m σ H' => ∃ (st : Option Abs) (raw : List (List (List Int))) (f i : Nat) (out : List Int) (v4 v5 : Option V), σ = [some (.ref a), some (.ref j), some (.ref gv), some (I i), v4, v5] ∧ m = ns.length - i ∧ i ≤ ns.length ∧ Same H H' ∧ SAt H' j st ∧ H' gv = some (.lst (out.map V.int)) ∧
      PyFlat.calls PySu115.shape f (ns.drop i) = some raw ∧ (∀ c ∈ raw, OkC c) ∧ PySu115.answers ns = out ++ run st raw,
      ⟨ns.length, none, raw, ns.length, 0, [], none, none, rfl, rfl, Nat.zero_le _, s1.trans s2, s2 _ _ upd_same, upd_same, hraw, hok, answers_run hraw⟩, ?_⟩
    rintro m σ H' ⟨st, raw, f, i, out, v4, v5, rfl, rfl, hi, s3, hst, hout, hraw, hok, heq⟩
    refine ⟨_, rfl, _, rfl, a, _, rfl, .inl (s3.seq hS), _, _, rfl, rfl, _, rfl, ?_⟩
    rw [List.length_map]
    refine ite2 (fun c => ?_) (fun c => ?_)
    · have hlt : i < ns.length := by
        have := of_decide_eq_true c
        omega
      -- one call
      obtain ⟨q, r, hqr⟩ : ∃ q r, ns.drop i = q :: r := by
        cases e : ns.drop i with
        | nil =>
          have := congrArg List.length e
          rw [List.length_drop, List.length_nil] at this
          omega
        | cons q r => exact ⟨q, r, rfl⟩
      rw [hqr] at hraw
      obtain ⟨p, args, rest, x, c1, raw', f', el, dec, rfl, hrest, hstep⟩ := (read1 hraw (fun z hz => hpos z (List.mem_of_mem_drop (by rw [hqr]; exact hz))) hok).ex
      rw [el] at hqr
      have hl2 : ns.length = i + (1 + (args.length + rest.length)) := by
        have := congrArg List.length hqr
        rw [List.length_drop, List.length_cons, List.length_append] at this
        omega
      have e0 : (ns.map V.int)[i]? = some (I p) := by
        have := drop_at hqr 0
        rw [List.getElem?_map, show ns[i]? = some (p : Int) from this]
        rfl
      refine ⟨fun σ' H2 => ∃ m', m' < ns.length - i ∧ _, fun σ' H2 h => h, ?_⟩
      refine ⟨_, rfl, _, rfl, _, rfl, a, ns, i, p, args, rest, x, rfl, s3.seq hS, hqr, dec, _, _, rfl, rfl, ?_⟩
      refine ⟨_, rfl, _, rfl, _, rfl, a, _, _, _, rfl, rfl, s3.seq hS, atI_nat e0, _, rfl, _, rfl, _, _, rfl, rfl, _, rfl, _, rfl, _, rfl, a, _, rfl, s3.seq hS, fun l hl => ?_⟩
      have s4 := same_new hl (.lst (cutV (ns.map V.int) (some ((i : Int) + 1)) (some ((i : Int) + ((1 + args.length : Nat) : Int)))))
      have hjl : j ≠ l := by
        cases st with
        | none => exact ne_of_none hst hl
        | some b => exact ne_of_none hst.lst hl
      refine ⟨j, l, st, p, args, x, rfl, hst.same s4, by rw [upd_same, cut_args hqr], hjl, dec, fun H5 rr s5 hst5 hr0 hrr => ?_⟩
      have hg4 := s4 _ _ hout
      have hg5 := s5 _ _ (Ne.symm hjg) hg4
      have hgr : gv ≠ rr := ne_of_none hg4 hr0
      have hjr : j ≠ rr := by
        cases st with
        | none => exact ne_of_none (s4 _ _ hst) hr0
        | some b => exact ne_of_none (s4 _ _ hst.lst) hr0
      have hrun : PySu115.answers ns = out ++ ((((outL (Su115.step st x)).length : Nat) : Int) :: outL (Su115.step st x)) ++ run (Su115.step st x).1 raw' := by
        rw [heq, run_cons, hstep, List.append_assoc]
      have hsz : out.length + 1 + (outL (Su115.step st x)).length ≤ 10000000 := by
        have := congrArg List.length hrun
        rw [List.length_append, List.length_append, List.length_cons] at this
        omega
      have hline : (10000000 : Nat) < sizeLine := by rw [sizeLine_eq]; decide
      refine ⟨_, rfl, .inl ⟨rfl, _, SqL.of hg5⟩, _, rfl, rr, _, rfl, .inl (SqL.of hrr), gv, _, _, rfl, rfl, hg5, by rw [List.length_map]; omega, ?_⟩
      have s6 : SameBut gv H5 (upd H5 gv (.lst (out.map V.int ++ [V.int ((((outL (Su115.step st x)).map V.int).length : Nat) : Int)]))) := sb_upd
      refine ⟨_, rfl, .inl ⟨rfl, _, SqL.of upd_same⟩, _, rfl, gv, rr, _, _, rfl, rfl, upd_same, s6 _ _ (Ne.symm hgr) hrr, ?_, ?_⟩
      · rw [List.length_append, List.length_map, List.length_map, List.length_singleton]
        omega
      · refine ⟨_, rfl, ?_⟩
        refine ⟨ns.length - (i + (1 + args.length)), by omega, (Su115.step st x).1, raw', f', i + (1 + args.length), out ++ ((((outL (Su115.step st x)).length : Nat) : Int) :: outL (Su115.step st x)), some (I (i + (1 + args.length))), some (.ref rr), ?_, rfl, by omega, ?_, ?_, ?_, ?_, fun c hc => hok c (List.mem_cons_of_mem _ hc), hrun⟩
        · have e : V.int ((i : Int) + ((1 + args.length : Nat) : Int)) = I (i + (1 + args.length)) := by
            unfold I
            congr 1
          rw [← e]
          rfl
        · intro b o hb
          have n1 : b ≠ j := fun e => by rw [e, hj] at hb; cases hb
          have n2 : b ≠ gv := fun e => by rw [e, s1.free hg] at hb; cases hb
          rw [upd_ne n2, upd_ne n2]
          exact s5 _ _ n1 (s4 _ _ (s3 _ _ hb))
        · exact (hst5.sb hjg sb_upd).sb hjg sb_upd
        · rw [upd_same, List.length_map, List.append_assoc, List.map_append]
          rfl
        · rw [← List.drop_drop, hqr]
          have : ((p : Int) :: (args ++ rest)).drop (1 + args.length) = rest := by
            rw [Nat.add_comm, List.drop_succ_cons, List.drop_left' rfl]
          rw [this]
          exact hrest
    · have hge : i = ns.length := by
        have := of_decide_eq_false (Bool.eq_false_iff.mpr c)
        omega
      have er : raw = [] := by
        rw [hge, List.drop_length] at hraw
        cases f with
        | zero => exact (Option.some.inj hraw).symm
        | succ f => exact (Option.some.inj hraw).symm
      rw [er] at heq
      have heq : PySu115.answers ns = out := by rw [heq]; exact List.append_nil _
      refine ⟨_, rfl, kk H' gv ?_⟩
      rw [heq]
      exact hout
end
end NT
end
section
set_option Elab.async false
set_option linter.all false
set_option maxRecDepth 100000
set_option maxHeartbeats 2000000
namespace NT
open PySem PySem.Spec PyProof.Rows L2
open Su115 (Abs Call)
open TM NM
abbrev sABegin : Stmt := top 28
abbrev sAJoin : Stmt := top 29
abbrev sADrop : Stmt := top 30
abbrev sAHours : Stmt := top 31
abbrev sAPlan : Stmt := top 32
abbrev sAOrder : Stmt := top 33
abbrev sACould : Stmt := top 34
abbrev sABy : Stmt := top 35
abbrev sAPart : Stmt := top 36
/-- how many of a call's numbers are people -/
def PEO : List Int := [0, 1, 0, 1, 1, 2, 1, 1, 2, 2, 2, 1, 2, 0, 0, 1, 0, 0]
/-- they are there -/
def Pers (a : Abs) (p : Nat) (args : List Int) : Prop := ∀ z ∈ args.take ((PEO.getD p 0).toNat), z < (a.n : Int)
/-- what comes behind a call -/
def After (H : Hp) (j : Addr) (Q : VK) (r : Option Abs × Su115.Ans) : Prop := ∀ (H' : Hp) (q : Addr), SameBut j H H' → SAt H' j r.1 → H q = none → H' q = some (.lst ((outL r).map V.int)) → Q (.ref q) H'
/-- the promise of the def that answers call p -/
def spOf (p : Nat) : Sp := fun vs H Q _ => ∃ (j l : Addr) (a : Abs) (args : List Int) (x : Call), vs = [.ref j, .ref l] ∧ JAt H j a ∧ H l = some (.lst (args.map V.int)) ∧ j ≠ l ∧ Dec p args x ∧ Pers a p args ∧ After H j Q (Su115.step (some a) x)
def spBegin : Sp := fun vs H Q _ => ∃ (j l : Addr) (s : Option Abs), vs = [.ref j, .ref l] ∧ SAt H j s ∧ After H j Q (Su115.step s .begin_)
structure Consts (mg : Str → Option Value) : Prop where
  nobody : Cst mg "NOBODY" (-1)
  most : Cst mg "MOST_PEOPLE" 14
  noneSuch : Cst mg "NONE_SUCH" (-2)
  noneElse : Cst mg "NONE_ELSE" (-6)
  notBegun : Cst mg "NOT_BEGUN" (-11)
  notJoined : Cst mg "NOT_JOINED" (-22)
  notOneEach : Cst mg "NOT_ONE_EACH" (-22)
  tooMany : Cst mg "TOO_MANY" (-28)
  begin_ : Cst mg "BEGIN" 0
section
variable {P : Program} {w : World} {K : PySem.W.Frag} {mg : Str → Option Value} {base : Heap}
abbrev p2 : List Str := ["joined", "numbers"]
theorem step_begin (s : Option Abs) : Su115.step s .begin_ = (some Su115.one, Su115.no 0) := by
  cases s <;> rfl
theorem wf_one : Wf Su115.one := fun i u h => by
  have h : ([] : List Nat)[i]? = some u := h
  rw [List.getElem?_nil] at h
  cases h
theorem scABegin : FnScope p2 p2 (defScope sABegin) := ⟨rfl, rfl, rfl, by decide +kernel, rfl, by decide +kernel, by decide +kernel⟩
theorem ok_abegin {f : Addr} {fd : FuncData} (F : Fun K "answer_begin" "answer_begin" sABegin f fd) (C : Consts mg) : FnOk P w K mg base CX0 1 f fd p2 spBegin := by
  obtain ⟨t1, c1⟩ := C.nobody
  refine F.ok scABegin (fun vs H Q E h => ?_) (fun cdv A outer s H vs Q E hr h => ?_)
  · obtain ⟨j, l, s, rfl, _⟩ := h
    rfl
  · obtain ⟨j, l, st, rfl, hs, kk⟩ := h
    refine ⟨_, pss_cons (ps_expr (pe_bm0 PySem.F.plainAttrs_list PySem.F.slot_list_clear PySem.F.type_list_clear mt_clear (pv 0)))
      (pss_cons (ps_expr (pe_bm PySem.F.plainAttrs_list PySem.F.slot_list_append PySem.F.type_list_append mt_append (pv 0) (pa_cons (pe_glob (v := .int (-1)) rfl c1 ⟨t1, rfl⟩) pa_nil)))
      (pss_one (ps_ret (pe_lst (pa_cons pe_int pa_nil))))), ?_⟩
    obtain ⟨xs, hx⟩ : ∃ xs, H j = some (.lst xs) := by
      cases st with
      | none => exact ⟨_, hs⟩
      | some a => exact ⟨_, hs.lst⟩
    refine ⟨_, rfl, .inl ⟨rfl, _, SqL.of hx⟩, j, _, rfl, rfl, hx, ?_⟩
    refine ⟨_, rfl, .inl ⟨rfl, _, SqL.of upd_same⟩, j, _, _, rfl, rfl, upd_same, (by show 0 < sizeLine; decide), ?_⟩
    refine ⟨(by show 1 ≤ sizeLine; decide), fun q hq => ?_⟩
    have hqj : j ≠ q := fun e => by
      rw [← e, upd_same] at hq
      cases hq
    rw [step_begin] at kk
    refine kk _ q (fun b o nb e => ?_) ⟨?_, wf_one, by decide⟩ ?_ ?_
    · rw [upd_ne (fun z => ?_), upd_ne nb, upd_ne nb]
      · exact e
      · rw [z] at e
        rw [upd_ne (Ne.symm hqj), upd_ne (Ne.symm hqj), e] at hq
        cases hq
    · rw [upd_ne hqj, upd_same]
      rfl
    · rw [upd_ne (Ne.symm hqj), upd_ne (Ne.symm hqj)] at hq
      exact hq
    · exact upd_same
theorem args1 {a : Nat} : ([(a : Int)].map V.int)[0]? = some (I a) := rfl
theorem JAt.len {H : Hp} {j : Addr} {a : Abs} (h : JAt H j a) : (((jv a).length : Nat) : Int) = (a.n : Int) := by rw [jv_len]
theorem step_some (a : Abs) (x : Call) : Su115.step (some a) x = (some (Su115.does a x).1, (Su115.does a x).2) := by cases x <;> rfl
theorem isP_true {a : Abs} {p : Nat} (h : p < a.n) : ¬ a.isP p = false := by
  unfold Abs.isP
  rw [decide_eq_true h]
  exact Bool.noConfusion
/-- a new list, the people as they were -/
theorem After.new {H H' : Hp} {j q : Addr} {Q : VK} {a : Abs} {r : Option Abs × Su115.Ans} (k : After H j Q r) (hr : r.1 = some a) (hj : JAt H j a) (s : Same H H') (hq : H q = none) (h : H' q = some (.lst ((outL r).map V.int))) : Q (.ref q) H' := by
  refine k H' q (s.but j) ?_ hq h
  rw [hr]
  exact hj.same s
theorem scAJoin : FnScope p2 p2 (defScope sAJoin) := ⟨rfl, rfl, rfl, by decide +kernel, rfl, by decide +kernel, by decide +kernel⟩
theorem wf_snoc {a : Abs} (w : Wf a) {p : Nat} (hp : p < a.n) : Wf ⟨a.up ++ [p]⟩ := fun i u h => by
  have h : (a.up ++ [p])[i]? = some u := h
  by_cases hi : i < a.up.length
  · rw [List.getElem?_append_left hi] at h
    exact w i u h
  · rw [List.getElem?_append_right (by omega)] at h
    have hl := (List.getElem?_eq_some_iff.mp h).1
    rw [List.length_singleton] at hl
    have e : i - a.up.length = 0 := by omega
    rw [e] at h
    have : p = u := Option.some.inj h
    unfold Abs.n at hp
    omega
theorem jv_snoc (a : Abs) (p : Nat) : jv ⟨a.up ++ [p]⟩ = jv a ++ [I p] := by
  unfold jv
  show V.int (-1) :: (a.up ++ [p]).map I = _
  rw [List.map_append]
  rfl
theorem ok_ajoin {f : Addr} {fd : FuncData} (F : Fun K "answer_join" "answer_join" sAJoin f fd) (B : Bt mg) (C : Consts mg) : FnOk P w K mg base CX0 1 f fd p2 (spOf 1) := by
  obtain ⟨t1, c1⟩ := C.most
  obtain ⟨t2, c2⟩ := C.tooMany
  refine F.ok scAJoin (fun vs H Q E h => ?_) (fun cdv A outer s H vs Q E hr h => ?_)
  · obtain ⟨j, l, a, args, x, rfl, _⟩ := h
    rfl
  · obtain ⟨j, l, a, args, x, rfl, hj, hl, hjl, dec, hp, kk⟩ := h
    cases dec with
    | join p =>
    refine ⟨_, pss_cons (ps_if (pt_cmpR op_eq (pe_callB call_len_seq rfl B.len PySem.boot_len (pa_cons (pv 0) pa_nil)) (pe_glob (v := .int 14) rfl c1 ⟨t1, rfl⟩) (nomark _)) (pss_one (ps_ret (pe_lst (pa_cons (pe_glob (v := .int (-28)) rfl c2 ⟨t2, rfl⟩) pa_nil)))) pss_nil)
      (pss_cons (ps_expr (pe_bm PySem.F.plainAttrs_list PySem.F.slot_list_append PySem.F.type_list_append mt_append (pv 0) (pa_cons (pe_ix ix_list (pv 1) pe_int (fun _ _ => rfl)) pa_nil)))
      (pss_one (ps_ret (pe_lst (pa_cons (pe_op op_sub (pe_callB call_len_seq rfl B.len PySem.boot_len (pa_cons (pv 0) pa_nil)) pe_int) pa_nil))))), ?_⟩
    have hpn : p < a.n := by
      have := hp (p : Int) List.mem_cons_self
      omega
    have hle := hj.le
    refine ⟨_, rfl, j, _, rfl, .inl (SqL.of hj.lst), rfl, _, rfl, ?_⟩
    rw [jv_len]
    refine ite2 (fun c => ?_) (fun c => ?_)
    · have c' : a.n = 14 := by
        have := V.int.inj (of_decide_eq_true c)
        omega
      refine ⟨(by show 1 ≤ sizeLine; decide), fun q hq => ?_⟩
      have e : Su115.does a (.join p) = (a, Su115.no (-28)) := by
        show (if a.isP p = false then _ else if Su115.PEOPLE ≤ a.n then _ else _) = _
        rw [if_neg (isP_true hpn), if_pos (by show 14 ≤ a.n; omega)]
      rw [step_some, e] at kk
      exact kk.new rfl hj (same_new hq _) hq upd_same
    · have c' : ¬ a.n = 14 := fun z => c (decide_eq_true (by rw [z]; rfl))
      have e : Su115.does a (.join p) = (⟨a.up ++ [p]⟩, Su115.num a.n []) := by
        show (if a.isP p = false then _ else if Su115.PEOPLE ≤ a.n then _ else _) = _
        rw [if_neg (isP_true hpn), if_neg (by show ¬ 14 ≤ a.n; omega)]
      rw [step_some, e] at kk
      refine ⟨_, rfl, .inl ⟨rfl, _, SqL.of hj.lst⟩, _, rfl, l, _, _, _, rfl, rfl, SqL.of hl, rfl, j, _, _, rfl, rfl, hj.lst, by rw [jv_len]; exact sized hle, ?_⟩
      refine ⟨_, rfl, j, _, rfl, .inl (SqL.of upd_same), _, _, rfl, rfl, (by show 1 ≤ sizeLine; decide), fun q hq => ?_⟩
      have hqj : j ≠ q := fun e => by
        rw [← e, upd_same] at hq
        cases hq
      refine kk _ q (fun b o nb e => ?_) ⟨?_, wf_snoc hj.wf hpn, ?_⟩ ?_ ?_
      · rw [upd_ne (fun z => ?_), upd_ne nb]
        · exact e
        · rw [z] at e
          rw [upd_ne (Ne.symm hqj), e] at hq
          cases hq
      · rw [upd_ne hqj, upd_same, jv_snoc]
        rfl
      · show (a.up ++ [p]).length + 1 ≤ 14
        rw [List.length_append, List.length_singleton]
        unfold Abs.n at hle c'
        omega
      · rw [upd_ne (Ne.symm hqj)] at hq
        exact hq
      · rw [upd_same, List.length_append, jv_len]
        show some (HO.lst [V.int (((a.n + 1 : Nat) : Int) - 1)]) = some (HO.lst [V.int (a.n : Int)])
        congr 4
        omega
theorem scADrop : FnScope p2 p2 (defScope sADrop) := ⟨rfl, rfl, rfl, by decide +kernel, rfl, by decide +kernel, by decide +kernel⟩
theorem wf_drop {a : Abs} (w : Wf a) : Wf ⟨a.up.dropLast⟩ := fun i u h => by
  have h : a.up.dropLast[i]? = some u := h
  refine w i u ?_
  have hi := (List.getElem?_eq_some_iff.mp h).1
  rw [List.length_dropLast] at hi
  rw [List.getElem?_dropLast, if_pos hi] at h
  exact h
theorem jv_drop {a : Abs} (h : a.n ≠ 1) : jv ⟨a.up.dropLast⟩ = (jv a).dropLast := by
  unfold jv
  have hn : a.up.map I ≠ [] := fun z => h (by
    have := congrArg List.length z
    rw [List.length_map, List.length_nil] at this
    unfold Abs.n
    omega)
  rw [List.dropLast_cons_of_ne_nil hn, List.map_dropLast]
theorem ok_adrop {f : Addr} {fd : FuncData} (F : Fun K "answer_drop" "answer_drop" sADrop f fd) (B : Bt mg) (C : Consts mg) : FnOk P w K mg base CX0 1 f fd p2 (spOf 2) := by
  obtain ⟨t1, c1⟩ := C.noneElse
  refine F.ok scADrop (fun vs H Q E h => ?_) (fun cdv A outer s H vs Q E hr h => ?_)
  · obtain ⟨j, l, a, args, x, rfl, _⟩ := h
    rfl
  · obtain ⟨j, l, a, args, x, rfl, hj, hl, hjl, dec, hp, kk⟩ := h
    cases dec with
    | drop =>
    refine ⟨_, pss_cons (ps_if (pt_cmpR op_eq (pe_callB call_len_seq rfl B.len PySem.boot_len (pa_cons (pv 0) pa_nil)) pe_int (nomark _)) (pss_one (ps_ret (pe_lst (pa_cons (pe_glob (v := .int (-6)) rfl c1 ⟨t1, rfl⟩) pa_nil)))) pss_nil)
      (pss_cons (ps_expr (pe_bm0 PySem.F.plainAttrs_list PySem.F.slot_list_pop PySem.F.type_list_pop mt_pop (pv 0)))
      (pss_one (ps_ret (pe_lst (pa_cons (pe_callB call_len_seq rfl B.len PySem.boot_len (pa_cons (pv 0) pa_nil)) pa_nil))))), ?_⟩
    have hle := hj.le
    refine ⟨_, rfl, j, _, rfl, .inl (SqL.of hj.lst), rfl, _, rfl, ?_⟩
    rw [jv_len]
    refine ite2 (fun c => ?_) (fun c => ?_)
    · have c' : a.n = 1 := by
        have := V.int.inj (of_decide_eq_true c)
        omega
      refine ⟨(by show 1 ≤ sizeLine; decide), fun q hq => ?_⟩
      have e : Su115.does a .drop = (a, Su115.no (-6)) := if_pos c'
      rw [step_some, e] at kk
      exact kk.new rfl hj (same_new hq _) hq upd_same
    · have c' : ¬ a.n = 1 := fun z => c (decide_eq_true (by rw [z]; rfl))
      have e : Su115.does a .drop = (⟨a.up.dropLast⟩, Su115.num (a.n - 1) []) := if_neg c'
      rw [step_some, e] at kk
      have hlast : ∃ y, (jv a)[(jv a).length - 1]? = some y := ⟨_, List.getElem?_eq_getElem (by rw [jv_len]; have := n_pos a; omega)⟩
      obtain ⟨y, hy⟩ := hlast
      refine ⟨_, rfl, .inl ⟨rfl, _, SqL.of hj.lst⟩, j, _, y, rfl, rfl, hj.lst, hy, ?_⟩
      refine ⟨_, rfl, j, _, rfl, .inl (SqL.of upd_same), (by show 1 ≤ sizeLine; decide), fun q hq => ?_⟩
      have hqj : j ≠ q := fun e => by
        rw [← e, upd_same] at hq
        cases hq
      refine kk _ q (fun b o nb e => ?_) ⟨?_, wf_drop hj.wf, ?_⟩ ?_ ?_
      · rw [upd_ne (fun z => ?_), upd_ne nb]
        · exact e
        · rw [z] at e
          rw [upd_ne (Ne.symm hqj), e] at hq
          cases hq
      · rw [upd_ne hqj, upd_same, jv_drop c']
      · show a.up.dropLast.length + 1 ≤ 14
        rw [List.length_dropLast]
        unfold Abs.n at hle
        omega
      · rw [upd_ne (Ne.symm hqj)] at hq
        exact hq
      · rw [upd_same, List.length_dropLast, jv_len]
        rfl
end
end NT
end
section
set_option Elab.async false
set_option linter.all false
set_option maxRecDepth 100000
set_option maxHeartbeats 2000000
namespace NT
open PySem PySem.Spec PyProof.Rows L2
open Su115 (Abs Call)
open TM NM
theorem outs_map (l : List Nat) : (Su115Neutral.outs l).map V.int = l.map I := by
  unfold Su115Neutral.outs
  rw [List.map_map]
  rfl
theorem outL_num (s : Option Abs) (n : Nat) (l : List Nat) : (outL (s, Su115.num n l)).map V.int = I n :: l.map I := by
  show V.int (Int.ofNat n) :: (Su115Neutral.outs l).map V.int = _
  rw [outs_map]
  rfl
theorem contains_iff {l : List Nat} {x : Nat} : l.contains x = false ↔ x ∉ l := by
  rw [← Bool.not_eq_true, List.contains_iff_mem]
abbrev sCnt : Stmt := top 27
def spCnt : Sp := fun vs H Q _ => ∃ (l : Addr) (xs : List Nat), vs = [.ref l] ∧ H l = some (.lst (xs.map I)) ∧ xs.length ≤ 14 ∧ newL H Q (xs.length :: xs)
section
variable {P : Program} {w : World} {K : PySem.W.Frag} {mg : Str → Option Value} {base : Heap}
theorem scCnt : FnScope ["people"] ["people"] (defScope sCnt) := ⟨rfl, rfl, rfl, by decide +kernel, rfl, by decide +kernel, by decide +kernel⟩
theorem ok_cnt {f : Addr} {fd : FuncData} (F : Fun K "counted" "counted" sCnt f fd) (B : Bt mg) : FnOk P w K mg base CX0 1 f fd ["people"] spCnt := by
  refine F.ok scCnt (fun vs H Q E h => ?_) (fun cdv A outer s H vs Q E hr h => ?_)
  · obtain ⟨l, xs, rfl, _⟩ := h
    rfl
  · obtain ⟨l, xs, rfl, hl, hlen, kk⟩ := h
    refine ⟨_, pss_one (ps_ret (pe_op op_cat (pe_lst (pa_cons (pe_callB call_len_seq rfl B.len PySem.boot_len (pa_cons (pv 0) pa_nil)) pa_nil)) (pv 0))), ?_⟩
    refine ⟨_, rfl, l, _, rfl, .inl (SqL.of hl), (by show 1 ≤ sizeLine; decide), fun q hq => ?_⟩
    have s1 := same_new hq (.lst [V.int ((xs.map I).length : Nat)])
    refine ⟨_, rfl, q, l, _, _, rfl, rfl, upd_same, s1 _ _ hl, ?_, fun z hz => ?_⟩
    · rw [List.length_singleton, List.length_map]
      exact Nat.le_of_lt (small1000 (by omega))
    · refine kk _ z (s1.trans (same_new hz _)) (s1.free hz) ?_
      rw [upd_same, List.length_map]
      rfl
end
/-- a new list of people and how many -/
theorem After.list {H : Hp} {j : Addr} {Q : VK} {a : Abs} {xs : List Nat} (k : After H j Q (some a, Su115.list xs)) (hj : JAt H j a) : newL H Q (xs.length :: xs) := fun H' r s hr h => by
  refine k.new rfl hj s hr ?_
  rw [h]
  show _ = some (HO.lst ((outL (some a, Su115.num xs.length xs)).map V.int))
  rw [outL_num]
  rfl
theorem newL.same {H H1 : Hp} {Q : VK} {l : List Nat} (k : newL H Q l) (s : Same H H1) : newL H1 Q l := fun H' r s1 hr h => k H' r (s.trans s1) (s.free hr) h
section
variable {P : Program} {w : World} {K : PySem.W.Frag} {mg : Str → Option Value} {base : Heap}
theorem pers1 {a : Abs} {p : Nat} {k : Nat} {args : List Int} (e : PEO.getD k 0 = 1) (h : Pers a k ((p : Int) :: args)) : p < a.n := by
  have := h (p : Int) (by rw [e]; exact List.mem_cons_self)
  omega
theorem pers2 {a : Abs} {p q : Nat} {k : Nat} (e : PEO.getD k 0 = 2) (h : Pers a k [(p : Int), (q : Int)]) : p < a.n ∧ q < a.n := by
  have h1 := h (p : Int) (by rw [e]; exact List.mem_cons_self)
  have h2 := h (q : Int) (by rw [e]; exact List.mem_cons_of_mem _ List.mem_cons_self)
  omega
theorem scAHours : FnScope p2 p2 (defScope sAHours) := ⟨rfl, rfl, rfl, by decide +kernel, rfl, by decide +kernel, by decide +kernel⟩
theorem ok_ahours {f : Addr} {fd : FuncData} {k : Nat} (F : Fun K "answer_hours" "answer_hours" sAHours f fd) (G : Df P w K mg base "need" p3 k (spNeed 14)) : FnOk P w K mg base CX0 (k + 1) f fd p2 (spOf 3) := by
  obtain ⟨g, gd, G, bG, kG, mG⟩ := G.ex
  refine F.ok scAHours (fun vs H Q E h => ?_) (fun cdv A outer s H vs Q E hr h => ?_)
  · obtain ⟨j, l, a, args, x, rfl, _⟩ := h
    rfl
  · obtain ⟨j, l, a, args, x, rfl, hj, hl, hjl, dec, hp, kk⟩ := h
    cases dec with
    | hours p =>
    refine ⟨_, pss_one (ps_ret (pe_lst (pa_cons (pe_call G hr rfl mG kG bG .nil pass0 (pa_cons (pv 0) (pa_cons (pe_ix ix_list (pv 1) pe_int (fun _ _ => rfl)) (pa_cons (pe_ix ix_list (pv 1) pe_int (fun _ _ => rfl)) pa_nil)))) pa_nil))), ?_⟩
    have hpn := pers1 rfl hp
    refine ⟨_, rfl, _, rfl, l, _, _, _, rfl, rfl, SqL.of hl, rfl, _, rfl, l, _, _, _, rfl, rfl, SqL.of hl, rfl, j, a, p, p, rfl, hj, hpn, Nat.le_trans card_le hj.le, fun H1 s1 => ?_⟩
    refine ⟨(by show 1 ≤ sizeLine; decide), fun q hq => ?_⟩
    have e : Su115.does a (.hours p) = (a, Su115.num (a.from_ p) []) := if_neg (isP_true hpn)
    rw [step_some, e] at kk
    refine kk.new rfl hj (s1.trans (same_new hq _)) (s1.free hq) ?_
    rw [upd_same, outL_num, hr_nobody hj.wf hpn]
    rfl
theorem scAPlan : FnScope p2 p2 (defScope sAPlan) := ⟨rfl, rfl, rfl, by decide +kernel, rfl, by decide +kernel, by decide +kernel⟩
theorem told_len (a : Abs) (p : Nat) : (a.told p).length = a.n := by
  unfold Abs.told Abs.ps
  rw [List.length_map, List.length_range]
theorem ok_aplan {f : Addr} {fd : FuncData} {k m : Nat} (F : Fun K "answer_plan" "answer_plan" sAPlan f fd) (G : Df P w K mg base "answer_hours" p2 k (spOf 3)) (D : Df P w K mg base "plan_hours" ["joined", "person"] m spPH) (hk : k ≤ m) : FnOk P w K mg base CX0 (m + 1) f fd p2 (spOf 4) := by
  obtain ⟨g, gd, G, bG, kG, mG⟩ := G.ex
  obtain ⟨df, dd, D, bD, kD, mD⟩ := D.ex
  refine F.ok scAPlan (fun vs H Q E h => ?_) (fun cdv A outer s H vs Q E hr h => ?_)
  · obtain ⟨j, l, a, args, x, rfl, _⟩ := h
    rfl
  · obtain ⟨j, l, a, args, x, rfl, hj, hl, hjl, dec, hp, kk⟩ := h
    cases dec with
    | plan p =>
    have hrk : Room k _ := hr.mono hk
    refine ⟨_, pss_one (ps_ret (pe_op op_cat (pe_call G hrk rfl mG kG bG .nil pass0 (pa_cons (pv 0) (pa_cons (pv 1) pa_nil))) (pe_call D hr rfl mD kD bD .nil pass0 (pa_cons (pv 0) (pa_cons (pe_ix ix_list (pv 1) pe_int (fun _ _ => rfl)) pa_nil))))), ?_⟩
    have hpn := pers1 rfl hp
    have hle := hj.le
    have eh : Su115.does a (.hours p) = (a, Su115.num (a.from_ p) []) := if_neg (isP_true hpn)
    have e : Su115.does a (.plan p) = (a, Su115.num (a.from_ p) (a.told p)) := if_neg (isP_true hpn)
    rw [step_some, e] at kk
    refine ⟨_, rfl, _, rfl, j, l, a, _, .hours p, rfl, hj, hl, hjl, .hours p, hp, fun H1 q s1 hs1 hq hq1 => ?_⟩
    rw [step_some, eh] at hs1 hq1
    rw [outL_num] at hq1
    have sj : Same H H1 := fun b o e => by
      by_cases z : b = j
      · rw [z, hj.lst] at e
        cases e
        rw [z]
        exact hs1.lst
      · exact s1 b o z e
    refine ⟨_, rfl, _, rfl, l, _, _, _, rfl, rfl, SqL.of (sj _ _ hl), rfl, j, a, p, rfl, hs1, hpn, fun H2 r s2 hr0 hrr => ?_⟩
    refine ⟨q, r, _, _, rfl, rfl, s2 _ _ hq1, hrr, ?_, fun z hz => ?_⟩
    · rw [List.length_cons, List.length_map, List.length_map, told_len]
      exact Nat.le_of_lt (small1000 (by simp; omega))
    · refine kk.new rfl hj ((sj.trans s2).trans (same_new hz _)) ((sj.trans s2).free hz) ?_
      rw [upd_same, outL_num]
      rfl
theorem scAOrder : FnScope ["joined", "numbers", "person", "teller"] p2 (defScope sAOrder) := ⟨rfl, rfl, rfl, by decide +kernel, rfl, by decide +kernel, by decide +kernel⟩
theorem ok_aorder {f : Addr} {fd : FuncData} {k : Nat} (F : Fun K "answer_order" "answer_order" sAOrder f fd) (B : Bt mg) (C : Consts mg) (N : Df P w K mg base "counted" ["people"] 1 spCnt) (J : Df P w K mg base "are_joined" ["joined", "one", "other"] 1 spJn) (G : Df P w K mg base "calling_order" p3 k (spCO 14)) (hk : 1 ≤ k) : FnOk P w K mg base CX0 (k + 1) f fd p2 (spOf 5) := by
  obtain ⟨g, gd, G, bG, kG, mG⟩ := G.ex
  obtain ⟨jf, jd, J, bJ, kJ, mJ⟩ := J.ex
  obtain ⟨nf, nd, N, bN, kN, mN⟩ := N.ex
  obtain ⟨t1, c1⟩ := C.notJoined
  refine F.ok scAOrder (fun vs H Q E h => ?_) (fun cdv A outer s H vs Q E hr h => ?_)
  · obtain ⟨j, l, a, args, x, rfl, _⟩ := h
    rfl
  · obtain ⟨j, l, a, args, x, rfl, hj, hl, hjl, dec, hp, kk⟩ := h
    cases dec with
    | order p t =>
    have hr1 : Room 1 _ := hr.mono hk
    refine ⟨_, pss_cons (ps_set (i := 2) scAOrder.nd rfl (Or.inl rfl) (pe_ix ix_list (pv 1) pe_int (fun _ _ => rfl))) (pss_cons (ps_set (i := 3) scAOrder.nd rfl (Or.inl rfl) (pe_ix ix_list (pv 1) pe_int (fun _ _ => rfl)))
      (pss_cons (ps_if (PW.pt (pw_and (pt_cmpR op_ne (pv 2) (pv 3) (nomark _)) (pw_and1 (pt_not (pt_val (pe_call J hr1 rfl mJ kJ bJ .nil pass0 (pa_cons (pv 0) (pa_cons (pv 2) (pa_cons (pv 3) pa_nil))))))))) (pss_one (ps_ret (pe_lst (pa_cons (pe_glob (v := .int (-22)) rfl c1 ⟨t1, rfl⟩) pa_nil)))) pss_nil)
      (pss_one (ps_ret (pe_call N hr1 rfl mN kN bN .nil pass0 (pa_cons (pe_call G hr rfl mG kG bG .nil pass0 (pa_cons (pv 0) (pa_cons (pv 2) (pa_cons (pv 3) pa_nil)))) pa_nil)))))), ?_⟩
    obtain ⟨hpn, htn⟩ := pers2 rfl hp
    have hle := hj.le
    have bad : p ≠ t → t ∉ a.near p → Su115.does a (.order p t) = (a, Su115.no (-22)) := fun h1 h2 => by
      show (if a.isP p = false ∨ a.isP t = false then _ else if p ≠ t ∧ (a.near p).contains t = false then _ else _) = _
      rw [if_neg (fun z => z.elim (isP_true hpn) (isP_true htn)), if_pos ⟨h1, contains_iff.mpr h2⟩]
    have good : ¬ (p ≠ t ∧ t ∉ a.near p) → Su115.does a (.order p t) = (a, Su115.list (a.order p t)) := fun h => by
      show (if a.isP p = false ∨ a.isP t = false then _ else if p ≠ t ∧ (a.near p).contains t = false then _ else _) = _
      rw [if_neg (fun z => z.elim (isP_true hpn) (isP_true htn)), if_neg (fun z => h ⟨z.1, contains_iff.mp z.2⟩)]
      by_cases e : p = t
      · rw [if_pos e, ← order_nobody hpn, e]
      · rw [if_neg e]
    have rest : ¬ (p ≠ t ∧ t ∉ a.near p) → tRet (tCall spCnt [] E0 (tCons (tCall (spCO 14) [] E0 (tCons (tVar 0) (tCons (tVar 2) (tCons (tVar 3) tNil)))) tNil))
        { nx := fun _ H' => Q .non H', rt := Q } [some (.ref j), some (.ref l), some (I p), some (I t)] H := fun h => by
      rw [step_some, good h] at kk
      refine ⟨_, rfl, _, rfl, _, rfl, j, a, p, t, rfl, hj, hpn, Nat.le_trans card_le hj.le, fun H1 r s1 hr0 hrr => ?_⟩
      exact ⟨r, _, rfl, hrr, Nat.le_trans order_len hle, (kk.list hj).same s1⟩
    refine ⟨_, rfl, l, _, _, _, rfl, rfl, SqL.of hl, rfl, ?_⟩
    refine ⟨_, rfl, l, _, _, _, rfl, rfl, SqL.of hl, rfl, ?_⟩
    refine ⟨_, rfl, _, rfl, rfl, _, rfl, ite2 (fun c => ?_) (fun c => ?_)⟩
    · have c1' : p ≠ t := fun z => by
        rw [z, decide_eq_true rfl] at c
        cases c
      refine ⟨_, rfl, _, rfl, _, rfl, j, a, p, t, rfl, hj, hpn, htn, _, rfl, ite2 (fun c2 => ?_) (fun c2 => ?_)⟩
      · have c3 : t ∉ a.near p := fun z => by
          rw [decide_eq_true z] at c2
          cases c2
        rw [step_some, bad c1' c3] at kk
        refine ⟨(by show 1 ≤ sizeLine; decide), fun q hq => ?_⟩
        exact kk.new rfl hj (same_new hq _) hq upd_same
      · refine rest fun z => c2 ?_
        rw [decide_eq_false z.2]
        rfl
    · refine iteF (rest fun z => c ?_)
      rw [decide_eq_false (show ¬ V.int (p : Int) = V.int (t : Int) from fun e => z.1 (I_inj e))]
      rfl
theorem scAPart : FnScope ["joined", "numbers", "viewer", "person"] p2 (defScope sAPart) := ⟨rfl, rfl, rfl, by decide +kernel, rfl, by decide +kernel, by decide +kernel⟩
theorem ok_apart {f : Addr} {fd : FuncData} {k m : Nat} (F : Fun K "answer_part" "answer_part" sAPart f fd) (C : Consts mg) (J : Df P w K mg base "are_joined" ["joined", "one", "other"] 1 spJn) (G : Df P w K mg base "need" p3 k (spNeed 14)) (Z : Df P w K mg base "size" p3 m (spSize 14)) (hk : 1 ≤ k) (hm : m ≤ k) : FnOk P w K mg base CX0 (k + 1) f fd p2 (spOf 8) := by
  obtain ⟨g, gd, G, bG, kG, mG⟩ := G.ex
  obtain ⟨jf, jd, J, bJ, kJ, mJ⟩ := J.ex
  obtain ⟨zf, zd, Z, bZ, kZ, mZ⟩ := Z.ex
  obtain ⟨t1, c1⟩ := C.notJoined
  refine F.ok scAPart (fun vs H Q E h => ?_) (fun cdv A outer s H vs Q E hr h => ?_)
  · obtain ⟨j, l, a, args, x, rfl, _⟩ := h
    rfl
  · obtain ⟨j, l, a, args, x, rfl, hj, hl, hjl, dec, hp, kk⟩ := h
    cases dec with
    | part p t =>
    have hr1 : Room 1 _ := hr.mono hk
    have hrm : Room m _ := hr.mono hm
    refine ⟨_, pss_cons (ps_set (i := 2) scAPart.nd rfl (Or.inl rfl) (pe_ix ix_list (pv 1) pe_int (fun _ _ => rfl))) (pss_cons (ps_set (i := 3) scAPart.nd rfl (Or.inl rfl) (pe_ix ix_list (pv 1) pe_int (fun _ _ => rfl)))
      (pss_cons (ps_if (pt_not (pt_val (pe_call J hr1 rfl mJ kJ bJ .nil pass0 (pa_cons (pv 0) (pa_cons (pv 2) (pa_cons (pv 3) pa_nil)))))) (pss_one (ps_ret (pe_lst (pa_cons (pe_glob (v := .int (-22)) rfl c1 ⟨t1, rfl⟩) pa_nil)))) pss_nil)
      (pss_one (ps_ret (pe_lst (pa_cons (pe_call G hr rfl mG kG bG .nil pass0 (pa_cons (pv 0) (pa_cons (pv 3) (pa_cons (pv 2) pa_nil)))) (pa_cons (pe_call Z hrm rfl mZ kZ bZ .nil pass0 (pa_cons (pv 0) (pa_cons (pv 3) (pa_cons (pv 2) pa_nil)))) pa_nil))))))), ?_⟩
    obtain ⟨hpn, htn⟩ := pers2 rfl hp
    refine ⟨_, rfl, l, _, _, _, rfl, rfl, SqL.of hl, rfl, ?_⟩
    refine ⟨_, rfl, l, _, _, _, rfl, rfl, SqL.of hl, rfl, ?_⟩
    refine ⟨_, rfl, _, rfl, _, rfl, j, a, p, t, rfl, hj, hpn, htn, _, rfl, ite2 (fun c2 => ?_) (fun c2 => ?_)⟩
    · have c3 : t ∉ a.near p := fun z => by
        rw [decide_eq_true z] at c2
        cases c2
      have e : Su115.does a (.part p t) = (a, Su115.no (-22)) := by
        show (if a.isP p = false ∨ a.isP t = false then _ else if (a.near p).contains t = false then _ else _) = _
        rw [if_neg (fun z => z.elim (isP_true hpn) (isP_true htn)), if_pos (contains_iff.mpr c3)]
      rw [step_some, e] at kk
      refine ⟨(by show 1 ≤ sizeLine; decide), fun q hq => ?_⟩
      exact kk.new rfl hj (same_new hq _) hq upd_same
    · have c3 : t ∈ a.near p := by
        by_cases z : t ∈ a.near p
        · exact z
        · rw [decide_eq_false z] at c2
          exact absurd rfl c2
      have e : Su115.does a (.part p t) = (a, Su115.num (a.hours a.n t p) [(a.plan a.n t p 0).length]) := by
        show (if a.isP p = false ∨ a.isP t = false then _ else if (a.near p).contains t = false then _ else _) = _
        rw [if_neg (fun z => z.elim (isP_true hpn) (isP_true htn)), if_neg (fun z => contains_iff.mp z c3)]
      rw [step_some, e] at kk
      refine ⟨_, rfl, _, rfl, _, rfl, j, a, t, p, rfl, hj, htn, Nat.le_trans card_le hj.le, fun H1 s1 => ?_⟩
      refine ⟨_, rfl, _, rfl, _, rfl, j, a, t, p, rfl, hj.same s1, htn, Nat.le_trans card_le hj.le, fun H2 s2 => ?_⟩
      refine ⟨(by show 2 ≤ sizeLine; decide), fun q hq => ?_⟩
      refine kk.new rfl hj ((s1.trans s2).trans (same_new hq _)) ((s1.trans s2).free hq) ?_
      rw [upd_same, outL_num]
      rfl
end
end NT
end
section
set_option Elab.async false
set_option linter.all false
set_option maxRecDepth 100000
set_option maxHeartbeats 2000000
namespace NT
open PySem PySem.Spec PyProof.Rows L2
open Su115 (Abs Call)
open TM NM
theorem most_le : ∀ (l : List Nat) (b : Nat), b ≤ l.foldl max b ∧ ∀ y ∈ l, y ≤ l.foldl max b
  | [], b => ⟨Nat.le_refl _, fun y hy => by cases hy⟩
  | x :: l, b => by
    rw [List.foldl_cons]
    obtain ⟨h1, h2⟩ := most_le l (max b x)
    refine ⟨by omega, fun y hy => ?_⟩
    rcases List.mem_cons.mp hy with e | hy
    · rw [e]; omega
    · exact h2 y hy
theorem most_in : ∀ (l : List Nat) (b : Nat), l.foldl max b = b ∨ l.foldl max b ∈ l
  | [], b => .inl rfl
  | x :: l, b => by
    rw [List.foldl_cons]
    rcases most_in l (max b x) with h | h
    · rw [h]
      by_cases e : b ≤ x
      · exact .inr (by rw [show max b x = x by omega]; exact List.mem_cons_self)
      · exact .inl (by omega)
    · exact .inr (List.mem_cons_of_mem _ h)
theorem most_of {l : List Nat} {m : Int} (h1 : m ∈ l.map fun (n : Nat) => (n : Int)) (h2 : ∀ y ∈ l.map fun (n : Nat) => (n : Int), y ≤ m) : m = ((Su115.most l : Nat) : Int) := by
  obtain ⟨x, hx, rfl⟩ := List.mem_map.mp h1
  unfold Su115.most
  have h3 := (most_le l 0).2 x hx
  have h4 : l.foldl max 0 ≤ x := by
    rcases most_in l 0 with h | h
    · rw [h]; exact Nat.zero_le _
    · have := h2 _ (List.mem_map.mpr ⟨_, h, rfl⟩)
      omega
  omega
theorem cut_row (a m : Int) (l : List Int) : cutV ((a :: m :: l).map V.int) (some 2) none = l.map V.int := by
  unfold cutV
  show ((V.int a :: V.int m :: l.map V.int).drop (HT.sIx (l.map V.int).length.succ.succ 0 (some ((2 : Nat) : Int)))).take (HT.sIx _ (l.map V.int).length.succ.succ none - HT.sIx (l.map V.int).length.succ.succ 0 (some ((2 : Nat) : Int))) = _
  rw [HT.sIx_nat, show min 2 (l.map V.int).length.succ.succ = 2 by omega]
  show (l.map V.int).take ((l.map V.int).length.succ.succ - 2) = _
  rw [show (l.map V.int).length.succ.succ - 2 = (l.map V.int).length by omega, List.take_length]
section
variable {P : Program} {w : World} {K : PySem.W.Frag} {mg : Str → Option Value} {base : Heap}
theorem scACould : FnScope ["joined", "numbers", "hours"] p2 (defScope sACould) := ⟨rfl, rfl, rfl, by decide +kernel, rfl, by decide +kernel, by decide +kernel⟩
theorem ok_acould {f : Addr} {fd : FuncData} {k : Nat} (F : Fun K "answer_could" "answer_could" sACould f fd) (B : Bt mg) (C : Consts mg) (G : Df P w K mg base "could_be" ["joined", "person", "hours"] k spCB) : FnOk P w K mg base CX0 (k + 1) f fd p2 (spOf 6) := by
  obtain ⟨g, gd, G, bG, kG, mG⟩ := G.ex
  obtain ⟨t1, c1⟩ := C.notOneEach
  refine F.ok scACould (fun vs H Q E h => ?_) (fun cdv A outer s H vs Q E hr h => ?_)
  · obtain ⟨j, l, a, args, x, rfl, _⟩ := h
    rfl
  · obtain ⟨j, l, a, args, x, rfl, hj, hl, hjl, dec, hp, kk⟩ := h
    cases dec with
    | could p hs h16 =>
    refine ⟨_, pss_cons (ps_set (i := 2) scACould.nd rfl (Or.inl rfl) (pe_slice sl_list (pv 1) (po_some pe_int) po_none))
      (pss_cons (ps_if (pt_cmpR op_ne (pe_callB call_len_seq rfl B.len PySem.boot_len (pa_cons (pv 2) pa_nil)) (pe_callB call_len_seq rfl B.len PySem.boot_len (pa_cons (pv 0) pa_nil)) (nomark _)) (pss_one (ps_ret (pe_lst (pa_cons (pe_glob (v := .int (-22)) rfl c1 ⟨t1, rfl⟩) pa_nil)))) pss_nil)
      (pss_one (ps_ret (pe_lst (pa_cons (pe_ifExp (pt_val (pe_call G hr rfl mG kG bG .nil pass0 (pa_cons (pv 0) (pa_cons (pe_ix ix_list (pv 1) pe_int (fun _ _ => rfl)) (pa_cons (pv 2) pa_nil))))) pe_int pe_int) (pa_cons (pe_callB (cr_max rfl) rfl B.max bt_max (pa_cons (pv 2) pa_nil)) pa_nil)))))), ?_⟩
    have hpn := pers1 rfl hp
    have hle := hj.le
    refine ⟨_, rfl, _, rfl, l, _, rfl, SqL.of hl, fun z hz => ?_⟩
    rw [cut_row]
    have ez : ((hs.map fun (n : Nat) => (n : Int)).map V.int) = hs.map I := by rw [List.map_map]; rfl
    have s1 := same_new hz (.lst ((hs.map fun (n : Nat) => (n : Int)).map V.int))
    refine ⟨_, rfl, z, _, rfl, .inl (SqL.of upd_same), _, rfl, j, _, rfl, .inl (SqL.of (s1 _ _ hj.lst)), rfl, _, rfl, ?_⟩
    rw [List.length_map, List.length_map, jv_len]
    refine ite2 (fun c => ?_) (fun c => ?_)
    · have c' : hs.length ≠ a.n := fun e => by
        rw [e, decide_eq_true rfl] at c
        cases c
      have e : Su115.does a (.could p hs) = (a, Su115.no (-22)) := by
        show (if a.isP p = false then _ else if hs.length ≠ a.n then _ else _) = _
        rw [if_neg (isP_true hpn), if_pos c']
      rw [step_some, e] at kk
      refine ⟨(by show 1 ≤ sizeLine; decide), fun q hq => ?_⟩
      exact kk.new rfl hj (s1.trans (same_new hq _)) (s1.free hq) upd_same
    · have c' : hs.length = a.n := by
        by_cases e : hs.length = a.n
        · exact e
        · refine absurd ?_ c
          rw [decide_eq_false fun q => e (by have := V.int.inj q; omega)]
          rfl
      have e : Su115.does a (.could p hs) = (a, Su115.num (Su115.bit (a.could p hs)) [Su115.most hs]) := by
        show (if a.isP p = false then _ else if hs.length ≠ a.n then _ else _) = _
        rw [if_neg (isP_true hpn), if_neg fun q => q c']
      rw [step_some, e] at kk
      refine ⟨_, rfl, _, rfl, l, _, _, _, rfl, rfl, SqL.of (s1 _ _ hl), atI_nat (j := 0) (v := I p) rfl, _, rfl, j, z, a, p, hs, rfl, hj.same s1, hpn, by rw [upd_same, ez], c', fun H2 s2 => ?_⟩
      have fin : ∀ (b : Bool) (v : Int), a.could p hs = b → v = (Su115.bit b : Nat) → tCons (tCB (rMax K) (tCons (tVar 2) tNil)) tNil [some (.ref j), some (.ref l), some (.ref z)] H2 fun xs H3 => (V.int v :: xs).length ≤ sizeLine ∧ ∀ q, H3 q = none → Q (.ref q) (upd H3 q (.lst (V.int v :: xs))) := fun b v hb hv => by
        have hpos := n_pos a
        refine ⟨_, rfl, z, _, rfl, SqL.of (s2 _ _ upd_same), by rw [List.length_map]; omega, fun m m1 m2 => ?_⟩
        refine ⟨(by show 2 ≤ sizeLine; decide), fun q hq => ?_⟩
        refine kk.new rfl hj ((s1.trans s2).trans (same_new hq _)) ((s1.trans s2).free hq) ?_
        rw [upd_same, outL_num, hb, hv, most_of m1 m2]
        rfl
      refine ⟨_, rfl, ite2 (fun cc => ?_) (fun cc => ?_)⟩
      · exact fin true 1 cc rfl
      · exact fin false 0 (Bool.eq_false_iff.mpr cc) rfl
theorem scABy : FnScope ["joined", "numbers", "hour"] p2 (defScope sABy) := ⟨rfl, rfl, rfl, by decide +kernel, rfl, by decide +kernel, by decide +kernel⟩
theorem ok_aby {f : Addr} {fd : FuncData} {k : Nat} (F : Fun K "answer_by" "answer_by" sABy f fd) (B : Bt mg) (G : Df P w K mg base "plan_hours" ["joined", "person"] k spPH) : FnOk P w K mg base CX0 (k + 1) f fd p2 (spOf 7) := by
  obtain ⟨g, gd, G, bG, kG, mG⟩ := G.ex
  refine F.ok scABy (fun vs H Q E h => ?_) (fun cdv A outer s H vs Q E hr h => ?_)
  · obtain ⟨j, l, a, args, x, rfl, _⟩ := h
    rfl
  · obtain ⟨j, l, a, args, x, rfl, hj, hl, hjl, dec, hp, kk⟩ := h
    cases dec with
    | by_ p b =>
    refine ⟨_, pss_one (ps_ret (pe_lst (pa_cons (pe_callB call_len_seq rfl B.len PySem.boot_len (pa_cons (pe_lc (own := [("hour", 2)]) (tt := tTest (tOp (rI0 fun i j => .bl (decide (i ≤ j))) (tVar 2) (tOp (rIxL K) (tVar 1) (tC (.int 1))))) rfl scABy.nd
      (pi_list (pe_call G hr rfl mG kG bG .nil pass0 (pa_cons (pv 0) (pa_cons (pe_ix ix_list (pv 1) pe_int (fun _ _ => rfl)) pa_nil)))) (blkOk_by (by show blkC ["joined", "numbers", "hour"] (defScope sABy) _ _ = true; decide +kernel))
      (fun _ _ _ _ _ => pg_name (i := 2) scABy.nd rfl (Or.inl rfl))
      (fun _ _ _ _ _ => pts_one (pt_cmpR op_le (pv 2) (pe_ix ix_list (pv 1) pe_int (fun _ _ => rfl)) (nomark _)))
      (fun _ _ _ _ _ => pv 2)) pa_nil)) pa_nil))), ?_⟩
    have hpn := pers1 rfl hp
    have hle := hj.le
    have e : Su115.does a (.by_ p b) = (a, Su115.num ((a.told p).filter fun t => decide (t ≤ b)).length []) := if_neg (isP_true hpn)
    rw [step_some, e] at kk
    refine ⟨_, rfl, _, rfl, l, _, _, _, rfl, rfl, SqL.of hl, rfl, j, a, p, rfl, hj, hpn, fun H1 r s1 hr0 hrr => ?_⟩
    refine ⟨_, rfl, ⟨_, SqL.of hrr⟩, ?_⟩
    intro D hD
    have tl := told_len a p
    refine lc_list (K := K) (a := r) (xs := (a.told p).map I) (fun i H' => Same H1 H' ∧ H' D = some (.lst ((((a.told p).take i).filter fun t => decide (t ≤ b)).map I))) ⟨same_new hD _, upd_same⟩ (fun i H' _ ⟨s2, _⟩ => SqL.of (s2 _ _ hrr)) ?_ ?_
    · rintro i x H' hx ⟨s2, hd⟩
      obtain ⟨q, hq, rfl⟩ := map_at hx
      have hi := (List.getElem?_eq_some_iff.mp hq).1
      have etake : (a.told p).take (i + 1) = (a.told p).take i ++ [q] := by
        rw [List.take_add_one, hq]
        rfl
      refine ⟨rfl, _, rfl, _, rfl, l, _, _, _, rfl, rfl, SqL.of (s2 _ _ (s1 _ _ hl)), rfl, _, _, rfl, rfl, _, rfl, ite2 (fun c => ?_) (fun c => ?_)⟩
      · have c' : q ≤ b := by
          have := of_decide_eq_true c
          omega
        refine ⟨_, rfl, _, hd, ?_, s2.grow hD, ?_⟩
        · rw [List.length_map]
          exact sized (Nat.le_trans (List.length_filter_le _ _) (by rw [List.length_take]; omega))
        · rw [upd_same, etake, List.filter_append, List.filter_cons, if_pos (decide_eq_true c'), List.filter_nil, List.map_append]
          rfl
      · have c' : ¬ q ≤ b := fun z => c (decide_eq_true (by omega))
        refine ⟨s2, ?_⟩
        rw [hd, etake, List.filter_append, List.filter_cons, if_neg (fun z => c' (of_decide_eq_true z)), List.filter_nil, List.append_nil]
    · rintro H' ⟨s2, hd⟩
      rw [List.length_map, List.take_length] at hd
      refine ⟨D, _, rfl, .inl (SqL.of hd), (by show 1 ≤ sizeLine; decide), fun q hq => ?_⟩
      refine kk.new rfl hj ((s1.trans s2).trans (same_new hq _)) ((s1.trans s2).free hq) ?_
      rw [upd_same, outL_num, List.length_map]
      rfl
end
end NT
end
section
set_option Elab.async false
set_option linter.all false
set_option maxRecDepth 100000
set_option maxHeartbeats 2000000
namespace NT
open PySem PySem.Spec PyProof.Rows L2
open Su115 (Abs Call)
open TM NM
abbrev sAFar : Stmt := top 37
abbrev sABetween : Stmt := top 38
abbrev sAFirst : Stmt := top 39
abbrev sAMore : Stmt := top 40
abbrev sALeast : Stmt := top 41
abbrev sAAll : Stmt := top 42
abbrev sANear : Stmt := top 43
abbrev sAEnds : Stmt := top 44
abbrev sAState : Stmt := top 45
section
variable {P : Program} {w : World} {K : PySem.W.Frag} {mg : Str → Option Value} {base : Heap}
theorem scAFar : FnScope p2 p2 (defScope sAFar) := ⟨rfl, rfl, rfl, by decide +kernel, rfl, by decide +kernel, by decide +kernel⟩
theorem ok_afar {f : Addr} {fd : FuncData} {k : Nat} (F : Fun K "answer_far" "answer_far" sAFar f fd) (B : Bt mg) (G : Df P w K mg base "way" ["joined", "one", "other"] k spWay) : FnOk P w K mg base CX0 (k + 1) f fd p2 (spOf 9) := by
  obtain ⟨g, gd, G, bG, kG, mG⟩ := G.ex
  refine F.ok scAFar (fun vs H Q E h => ?_) (fun cdv A outer s H vs Q E hr h => ?_)
  · obtain ⟨j, l, a, args, x, rfl, _⟩ := h
    rfl
  · obtain ⟨j, l, a, args, x, rfl, hj, hl, hjl, dec, hp, kk⟩ := h
    cases dec with
    | far p q =>
    refine ⟨_, pss_one (ps_ret (pe_lst (pa_cons (pe_op op_sub (pe_callB call_len_seq rfl B.len PySem.boot_len (pa_cons (pe_call G hr rfl mG kG bG .nil pass0 (pa_cons (pv 0) (pa_cons (pe_ix ix_list (pv 1) pe_int (fun _ _ => rfl)) (pa_cons (pe_ix ix_list (pv 1) pe_int (fun _ _ => rfl)) pa_nil)))) pa_nil)) pe_int) pa_nil))), ?_⟩
    obtain ⟨hpn, hqn⟩ := pers2 rfl hp
    have e : Su115.does a (.far p q) = (a, Su115.num (a.far p q) []) := if_neg fun z => z.elim (isP_true hpn) (isP_true hqn)
    rw [step_some, e] at kk
    refine ⟨_, rfl, _, rfl, l, _, _, _, rfl, rfl, SqL.of hl, rfl, _, rfl, l, _, _, _, rfl, rfl, SqL.of hl, rfl, j, a, p, q, rfl, hj, hpn, hqn, fun H1 r s1 hr0 hrr => ?_⟩
    refine ⟨r, _, rfl, .inl (SqL.of hrr), _, _, rfl, rfl, (by show 1 ≤ sizeLine; decide), fun z hz => ?_⟩
    refine kk.new rfl hj (s1.trans (same_new hz _)) (s1.free hz) ?_
    rw [upd_same, outL_num, List.length_map, path_len hj.wf _ p q (Nat.le_refl _) hpn hqn]
    show some (HO.lst [V.int (((a.far p q + 1 : Nat) : Int) - 1)]) = some (HO.lst [V.int (a.far p q : Int)])
    congr 4
    omega
theorem scABetween : FnScope p2 p2 (defScope sABetween) := ⟨rfl, rfl, rfl, by decide +kernel, rfl, by decide +kernel, by decide +kernel⟩
theorem ok_abetween {f : Addr} {fd : FuncData} {k : Nat} (F : Fun K "answer_between" "answer_between" sABetween f fd) (N : Df P w K mg base "counted" ["people"] 1 spCnt) (G : Df P w K mg base "way" ["joined", "one", "other"] k spWay) (hk : 1 ≤ k) : FnOk P w K mg base CX0 (k + 1) f fd p2 (spOf 10) := by
  obtain ⟨g, gd, G, bG, kG, mG⟩ := G.ex
  obtain ⟨nf, nd, N, bN, kN, mN⟩ := N.ex
  refine F.ok scABetween (fun vs H Q E h => ?_) (fun cdv A outer s H vs Q E hr h => ?_)
  · obtain ⟨j, l, a, args, x, rfl, _⟩ := h
    rfl
  · obtain ⟨j, l, a, args, x, rfl, hj, hl, hjl, dec, hp, kk⟩ := h
    cases dec with
    | between p q =>
    have hr1 : Room 1 _ := hr.mono hk
    refine ⟨_, pss_one (ps_ret (pe_call N hr1 rfl mN kN bN .nil pass0 (pa_cons (pe_call G hr rfl mG kG bG .nil pass0 (pa_cons (pv 0) (pa_cons (pe_ix ix_list (pv 1) pe_int (fun _ _ => rfl)) (pa_cons (pe_ix ix_list (pv 1) pe_int (fun _ _ => rfl)) pa_nil)))) pa_nil))), ?_⟩
    obtain ⟨hpn, hqn⟩ := pers2 rfl hp
    have e : Su115.does a (.between p q) = (a, Su115.list (a.path p q)) := if_neg fun z => z.elim (isP_true hpn) (isP_true hqn)
    rw [step_some, e] at kk
    refine ⟨_, rfl, _, rfl, l, _, _, _, rfl, rfl, SqL.of hl, rfl, _, rfl, l, _, _, _, rfl, rfl, SqL.of hl, rfl, j, a, p, q, rfl, hj, hpn, hqn, fun H1 r s1 hr0 hrr => ?_⟩
    exact ⟨r, _, rfl, hrr, Nat.le_trans (path_len_le a p q) hj.le, (kk.list hj).same s1⟩
theorem scANear : FnScope p2 p2 (defScope sANear) := ⟨rfl, rfl, rfl, by decide +kernel, rfl, by decide +kernel, by decide +kernel⟩
theorem ok_anear {f : Addr} {fd : FuncData} {k : Nat} (F : Fun K "answer_near" "answer_near" sANear f fd) (N : Df P w K mg base "counted" ["people"] 1 spCnt) (G : Df P w K mg base "side" p3 k spSide) (hk : 1 ≤ k) : FnOk P w K mg base CX0 (k + 1) f fd p2 (spOf 15) := by
  obtain ⟨g, gd, G, bG, kG, mG⟩ := G.ex
  obtain ⟨nf, nd, N, bN, kN, mN⟩ := N.ex
  refine F.ok scANear (fun vs H Q E h => ?_) (fun cdv A outer s H vs Q E hr h => ?_)
  · obtain ⟨j, l, a, args, x, rfl, _⟩ := h
    rfl
  · obtain ⟨j, l, a, args, x, rfl, hj, hl, hjl, dec, hp, kk⟩ := h
    cases dec with
    | near p =>
    have hr1 : Room 1 _ := hr.mono hk
    refine ⟨_, pss_one (ps_ret (pe_call N hr1 rfl mN kN bN .nil pass0 (pa_cons (pe_call G hr rfl mG kG bG .nil pass0 (pa_cons (pv 0) (pa_cons (pe_ix ix_list (pv 1) pe_int (fun _ _ => rfl)) (pa_cons (pe_ix ix_list (pv 1) pe_int (fun _ _ => rfl)) pa_nil)))) pa_nil))), ?_⟩
    have hpn := pers1 rfl hp
    have e : Su115.does a (.near p) = (a, Su115.list (a.near p)) := if_neg (isP_true hpn)
    rw [step_some, e] at kk
    refine ⟨_, rfl, _, rfl, l, _, _, _, rfl, rfl, SqL.of hl, rfl, _, rfl, l, _, _, _, rfl, rfl, SqL.of hl, rfl, j, a, p, p, rfl, hj, hpn, fun H1 r s1 hr0 hrr => ?_⟩
    have hsl := side_len (a := a) (p := p) (t := p)
    rw [side_nobody (near_self hpn)] at hrr hsl
    exact ⟨r, _, rfl, hrr, Nat.le_trans hsl hj.le, (kk.list hj).same s1⟩
theorem scAEnds : FnScope p2 p2 (defScope sAEnds) := ⟨rfl, rfl, rfl, by decide +kernel, rfl, by decide +kernel, by decide +kernel⟩
theorem ok_aends {f : Addr} {fd : FuncData} {k : Nat} (F : Fun K "answer_ends" "answer_ends" sAEnds f fd) (N : Df P w K mg base "counted" ["people"] 1 spCnt) (G : Df P w K mg base "ends" ["joined"] k spEnds) (hk : 1 ≤ k) : FnOk P w K mg base CX0 (k + 1) f fd p2 (spOf 16) := by
  obtain ⟨g, gd, G, bG, kG, mG⟩ := G.ex
  obtain ⟨nf, nd, N, bN, kN, mN⟩ := N.ex
  refine F.ok scAEnds (fun vs H Q E h => ?_) (fun cdv A outer s H vs Q E hr h => ?_)
  · obtain ⟨j, l, a, args, x, rfl, _⟩ := h
    rfl
  · obtain ⟨j, l, a, args, x, rfl, hj, hl, hjl, dec, hp, kk⟩ := h
    cases dec with
    | ends =>
    have hr1 : Room 1 _ := hr.mono hk
    refine ⟨_, pss_one (ps_ret (pe_call N hr1 rfl mN kN bN .nil pass0 (pa_cons (pe_call G hr rfl mG kG bG .nil pass0 (pa_cons (pv 0) pa_nil)) pa_nil))), ?_⟩
    have e : Su115.does a .ends = (a, Su115.list (endsTo a a.n)) := rfl
    rw [step_some, e] at kk
    refine ⟨_, rfl, j, a, rfl, hj, fun H1 r s1 hr0 hrr => ?_⟩
    exact ⟨r, _, rfl, hrr, Nat.le_trans (endsTo_len a a.n) hj.le, (kk.list hj).same s1⟩
theorem scAState : FnScope p2 p2 (defScope sAState) := ⟨rfl, rfl, rfl, by decide +kernel, rfl, by decide +kernel, by decide +kernel⟩
theorem cut_tail (a : Abs) : cutV (jv a) (some 1) none = a.up.map I := by
  unfold cutV jv
  show ((V.int (-1) :: a.up.map I).drop (HT.sIx (a.up.map I).length.succ 0 (some ((1 : Nat) : Int)))).take (HT.sIx _ (a.up.map I).length.succ none - HT.sIx (a.up.map I).length.succ 0 (some ((1 : Nat) : Int))) = _
  rw [HT.sIx_nat, show min 1 (a.up.map I).length.succ = 1 by omega]
  show (a.up.map I).take ((a.up.map I).length.succ - 1) = _
  rw [show (a.up.map I).length.succ - 1 = (a.up.map I).length by omega, List.take_length]
theorem ok_astate {f : Addr} {fd : FuncData} (F : Fun K "answer_state" "answer_state" sAState f fd) (B : Bt mg) : FnOk P w K mg base CX0 1 f fd p2 (spOf 17) := by
  refine F.ok scAState (fun vs H Q E h => ?_) (fun cdv A outer s H vs Q E hr h => ?_)
  · obtain ⟨j, l, a, args, x, rfl, _⟩ := h
    rfl
  · obtain ⟨j, l, a, args, x, rfl, hj, hl, hjl, dec, hp, kk⟩ := h
    cases dec with
    | state =>
    refine ⟨_, pss_one (ps_ret (pe_op op_cat (pe_lst (pa_cons (pe_callB call_len_seq rfl B.len PySem.boot_len (pa_cons (pv 0) pa_nil)) pa_nil)) (pe_slice sl_list (pv 0) (po_some pe_int) po_none))), ?_⟩
    have hle := hj.le
    have e : Su115.does a .state = (a, Su115.num a.n a.up) := rfl
    rw [step_some, e] at kk
    refine ⟨_, rfl, j, _, rfl, .inl (SqL.of hj.lst), (by show 1 ≤ sizeLine; decide), fun q hq => ?_⟩
    rw [jv_len]
    have s1 := same_new hq (.lst [V.int ((a.n : Nat) : Int)])
    refine ⟨_, rfl, _, rfl, j, _, rfl, SqL.of (s1 _ _ hj.lst), fun r hr0 => ?_⟩
    rw [cut_tail]
    have s2 := same_new hr0 (.lst (a.up.map I))
    refine ⟨q, r, _, _, rfl, rfl, s2 _ _ upd_same, upd_same, ?_, fun z hz => ?_⟩
    · rw [List.length_singleton, List.length_map]
      unfold Abs.n at hle
      exact Nat.le_of_lt (small1000 (by omega))
    · refine kk.new rfl hj ((s1.trans s2).trans (same_new hz _)) ((s1.trans s2).free hz) ?_
      rw [upd_same, outL_num]
      rfl
theorem scALeast : FnScope p2 p2 (defScope sALeast) := ⟨rfl, rfl, rfl, by decide +kernel, rfl, by decide +kernel, by decide +kernel⟩
theorem froms_le {a : Abs} (w : Wf a) (h : a.n ≤ 14) : ∀ x ∈ a.ps.map a.from_, x ≤ 100 := fun x hx => by
  obtain ⟨p, hp, rfl⟩ := List.mem_map.mp hx
  have := from_lt w (List.mem_range.mp hp)
  omega
theorem froms_len (a : Abs) : (a.ps.map a.from_).length = a.n := by
  unfold Abs.ps
  rw [List.length_map, List.length_range]
theorem ok_aleast {f : Addr} {fd : FuncData} {k : Nat} (F : Fun K "answer_least" "answer_least" sALeast f fd) (B : Bt mg) (G : Df P w K mg base "hours_from_each" ["joined"] k spHE) : FnOk P w K mg base CX0 (k + 1) f fd p2 (spOf 13) := by
  obtain ⟨g, gd, G, bG, kG, mG⟩ := G.ex
  refine F.ok scALeast (fun vs H Q E h => ?_) (fun cdv A outer s H vs Q E hr h => ?_)
  · obtain ⟨j, l, a, args, x, rfl, _⟩ := h
    rfl
  · obtain ⟨j, l, a, args, x, rfl, hj, hl, hjl, dec, hp, kk⟩ := h
    cases dec with
    | least =>
    refine ⟨_, pss_one (ps_ret (pe_lst (pa_cons (pe_callB (cr_min rfl) rfl B.min bt_min (pa_cons (pe_call G hr rfl mG kG bG .nil pass0 (pa_cons (pv 0) pa_nil)) pa_nil)) pa_nil))), ?_⟩
    have e : Su115.does a .least = (a, Su115.num ((a.ps.map a.from_).foldl min 100) []) := rfl
    rw [step_some, e] at kk
    refine ⟨_, rfl, j, a, rfl, hj, fun H1 r s1 hr0 hrr => ?_⟩
    rw [← cast_I] at hrr
    have hpos := n_pos a
    refine ⟨r, _, rfl, SqL.of hrr, by rw [List.length_map, froms_len]; exact hpos, fun m m1 m2 => ?_⟩
    refine ⟨(by show 1 ≤ sizeLine; decide), fun q hq => ?_⟩
    refine kk.new rfl hj (s1.trans (same_new hq _)) (s1.free hq) ?_
    rw [upd_same, outL_num, least_of (froms_le hj.wf hj.le) m1 m2]
    rfl
theorem scAAll : FnScope ["joined", "numbers", "hours"] p2 (defScope sAAll) := ⟨rfl, rfl, rfl, by decide +kernel, rfl, by decide +kernel, by decide +kernel⟩
theorem ok_aall {f : Addr} {fd : FuncData} {k : Nat} (F : Fun K "answer_all" "answer_all" sAAll f fd) (B : Bt mg) (G : Df P w K mg base "hours_from_each" ["joined"] k spHE) : FnOk P w K mg base CX0 (k + 1) f fd p2 (spOf 14) := by
  obtain ⟨g, gd, G, bG, kG, mG⟩ := G.ex
  refine F.ok scAAll (fun vs H Q E h => ?_) (fun cdv A outer s H vs Q E hr h => ?_)
  · obtain ⟨j, l, a, args, x, rfl, _⟩ := h
    rfl
  · obtain ⟨j, l, a, args, x, rfl, hj, hl, hjl, dec, hp, kk⟩ := h
    cases dec with
    | all =>
    refine ⟨_, pss_cons (ps_set (i := 2) scAAll.nd rfl (Or.inl rfl) (pe_call G hr rfl mG kG bG .nil pass0 (pa_cons (pv 0) pa_nil)))
      (pss_one (ps_ret (pe_op op_cat (pe_lst (pa_cons (pe_callB (cr_max rfl) rfl B.max bt_max (pa_cons (pv 2) pa_nil)) pa_nil)) (pv 2)))), ?_⟩
    have hle := hj.le
    have e : Su115.does a .all = (a, Su115.num (Su115.most (a.ps.map a.from_)) (a.ps.map a.from_)) := rfl
    rw [step_some, e] at kk
    refine ⟨_, rfl, j, a, rfl, hj, fun H1 r s1 hr0 hrr => ?_⟩
    rw [← cast_I] at hrr
    have hpos := n_pos a
    have hfl := froms_len a
    refine ⟨_, rfl, r, _, rfl, SqL.of hrr, by rw [List.length_map, froms_len]; exact hpos, fun m m1 m2 => ?_⟩
    refine ⟨(by show 1 ≤ sizeLine; decide), fun q hq => ?_⟩
    have s2 := same_new hq (.lst [V.int m])
    refine ⟨_, rfl, q, r, _, _, rfl, rfl, upd_same, s2 _ _ hrr, ?_, fun z hz => ?_⟩
    · rw [List.length_singleton, List.length_map, List.length_map, hfl]
      exact Nat.le_of_lt (small1000 (by omega))
    · refine kk.new rfl hj ((s1.trans s2).trans (same_new hz _)) ((s1.trans s2).free hz) ?_
      rw [upd_same, outL_num, most_of m1 m2, cast_I]
      rfl
theorem scAFirst : FnScope ["joined", "numbers", "pairs"] p2 (defScope sAFirst) := ⟨rfl, rfl, rfl, by decide +kernel, rfl, by decide +kernel, by decide +kernel⟩
theorem does_first_none {a : Abs} {p : Nat} (hp : p < a.n) (h : (a.order p a.n).head? = none) : Su115.does a (.first p) = (a, Su115.no (-6)) := by
  show (if a.isP p = false then _ else match (a.order p a.n).head? with | none => _ | some q => _) = _
  rw [if_neg (isP_true hp), h]
theorem does_first_some {a : Abs} {p q : Nat} (hp : p < a.n) (h : (a.order p a.n).head? = some q) : Su115.does a (.first p) = (a, Su115.num q [Hr a q p]) := by
  show (if a.isP p = false then _ else match (a.order p a.n).head? with | none => _ | some q => _) = _
  rw [if_neg (isP_true hp), h]
  rfl
theorem ok_afirst {f : Addr} {fd : FuncData} {k : Nat} (F : Fun K "answer_first" "answer_first" sAFirst f fd) (B : Bt mg) (C : Consts mg) (G : Df P w K mg base "ranked" p3 k (spRank 14)) : FnOk P w K mg base CX0 (k + 1) f fd p2 (spOf 11) := by
  obtain ⟨g, gd, G, bG, kG, mG⟩ := G.ex
  obtain ⟨t1, c1⟩ := C.noneElse
  refine F.ok scAFirst (fun vs H Q E h => ?_) (fun cdv A outer s H vs Q E hr h => ?_)
  · obtain ⟨j, l, a, args, x, rfl, _⟩ := h
    rfl
  · obtain ⟨j, l, a, args, x, rfl, hj, hl, hjl, dec, hp, kk⟩ := h
    cases dec with
    | first p =>
    refine ⟨_, pss_cons (ps_set (i := 2) scAFirst.nd rfl (Or.inl rfl) (pe_call G hr rfl mG kG bG .nil pass0 (pa_cons (pv 0) (pa_cons (pe_ix ix_list (pv 1) pe_int (fun _ _ => rfl)) (pa_cons (pe_ix ix_list (pv 1) pe_int (fun _ _ => rfl)) pa_nil)))))
      (pss_cons (ps_if (pt_cmpR op_eq (pe_callB call_len_seq rfl B.len PySem.boot_len (pa_cons (pv 2) pa_nil)) pe_int (nomark _)) (pss_one (ps_ret (pe_lst (pa_cons (pe_glob (v := .int (-6)) rfl c1 ⟨t1, rfl⟩) pa_nil)))) pss_nil)
      (pss_one (ps_ret (pe_lst (pa_cons (pe_ix ix_tup (pe_ix ix_list (pv 2) pe_int (fun _ _ => rfl)) pe_int (fun _ _ => rfl)) (pa_cons (pe_un un_neg (pe_ix ix_tup (pe_ix ix_list (pv 2) pe_int (fun _ _ => rfl)) pe_int (fun _ _ => rfl))) pa_nil)))))), ?_⟩
    have hpn := pers1 rfl hp
    refine ⟨_, rfl, _, rfl, l, _, _, _, rfl, rfl, SqL.of hl, rfl, _, rfl, l, _, _, _, rfl, rfl, SqL.of hl, rfl, j, a, p, p, rfl, hj, hpn, Nat.le_trans card_le hj.le, fun H1 r ps s1 R => ?_⟩
    have hlen := rank_len R
    rw [order_nobody hpn] at hlen
    refine ⟨_, rfl, r, _, rfl, .inl (SqL.of R.lst), rfl, _, rfl, ?_⟩
    rw [List.length_map]
    refine ite2 (fun c => ?_) (fun c => ?_)
    · have c' : ps.length = 0 := by
        have := V.int.inj (of_decide_eq_true c)
        omega
      have h0 : (a.order p a.n).head? = none := by
        rw [List.eq_nil_of_length_eq_zero (hlen.symm.trans c')]
        rfl
      rw [step_some, does_first_none hpn h0] at kk
      refine ⟨(by show 1 ≤ sizeLine; decide), fun q hq => ?_⟩
      exact kk.new rfl hj (s1.trans (same_new hq _)) (s1.free hq) upd_same
    · have c' : ¬ ps.length = 0 := fun z => c (decide_eq_true (by rw [z]; rfl))
      have hx : (ps.map fun z => V.ref z.1)[0]? = some (V.ref (ps[0]'(by omega)).1) := by
        rw [List.getElem?_map, List.getElem?_eq_getElem (show 0 < ps.length by omega)]
        rfl
      obtain ⟨z, q, ez, hz, hq, ek⟩ := rank_at R hx
      rw [order_nobody hpn] at hq
      have hh : (a.order p a.n).head? = some q := by rw [List.head?_eq_getElem?]; exact hq
      rw [step_some, does_first_some hpn hh] at kk
      rw [ez] at hx
      have ht := R.prs z hz
      refine ⟨_, rfl, r, _, _, _, rfl, rfl, SqL.of R.lst, atI_nat (j := 0) hx, z.1, _, _, _, rfl, rfl, SqT.of ht, rfl, ?_⟩
      refine ⟨_, rfl, r, _, _, _, rfl, rfl, SqL.of R.lst, atI_nat (j := 0) hx, z.1, _, _, _, rfl, rfl, SqT.of ht, rfl, _, rfl, ?_⟩
      refine ⟨(by show 2 ≤ sizeLine; decide), fun y hy => ?_⟩
      refine kk.new rfl hj (s1.trans (same_new hy _)) (s1.free hy) ?_
      rw [upd_same, outL_num, ek]
      show some (HO.lst [V.int (q : Int), V.int (- -((Hr a q p : Nat) : Int))]) = some (HO.lst [V.int (q : Int), V.int ((Hr a q p : Nat) : Int)])
      rw [Int.neg_neg]
theorem scAMore : FnScope ["joined", "numbers", "person"] p2 (defScope sAMore) := ⟨rfl, rfl, rfl, by decide +kernel, rfl, by decide +kernel, by decide +kernel⟩
theorem ok_amore {f : Addr} {fd : FuncData} {k : Nat} (F : Fun K "answer_more" "answer_more" sAMore f fd) (B : Bt mg) (C : Consts mg) (G : Df P w K mg base "need" p3 k (spNeed 14)) : FnOk P w K mg base CX0 (k + 1) f fd p2 (spOf 12) := by
  obtain ⟨g, gd, G, bG, kG, mG⟩ := G.ex
  obtain ⟨t1, c1⟩ := C.most
  obtain ⟨t2, c2⟩ := C.tooMany
  refine F.ok scAMore (fun vs H Q E h => ?_) (fun cdv A outer s H vs Q E hr h => ?_)
  · obtain ⟨j, l, a, args, x, rfl, _⟩ := h
    rfl
  · obtain ⟨j, l, a, args, x, rfl, hj, hl, hjl, dec, hp, kk⟩ := h
    cases dec with
    | more p q =>
    refine ⟨_, pss_cons (ps_if (pt_cmpR op_eq (pe_callB call_len_seq rfl B.len PySem.boot_len (pa_cons (pv 0) pa_nil)) (pe_glob (v := .int 14) rfl c1 ⟨t1, rfl⟩) (nomark _)) (pss_one (ps_ret (pe_lst (pa_cons (pe_glob (v := .int (-28)) rfl c2 ⟨t2, rfl⟩) pa_nil)))) pss_nil)
      (pss_cons (ps_set (i := 2) scAMore.nd rfl (Or.inl rfl) (pe_ix ix_list (pv 1) pe_int (fun _ _ => rfl)))
      (pss_one (ps_ret (pe_lst (pa_cons (pe_call G hr rfl mG kG bG .nil pass0 (pa_cons (pe_op op_cat (pv 0) (pe_lst (pa_cons (pe_ix ix_list (pv 1) pe_int (fun _ _ => rfl)) pa_nil))) (pa_cons (pv 2) (pa_cons (pv 2) pa_nil)))) (pa_cons (pe_call G hr rfl mG kG bG .nil pass0 (pa_cons (pv 0) (pa_cons (pv 2) (pa_cons (pv 2) pa_nil)))) pa_nil)))))), ?_⟩
    obtain ⟨hpn, hqn⟩ := pers2 rfl hp
    have hle := hj.le
    refine ⟨_, rfl, j, _, rfl, .inl (SqL.of hj.lst), rfl, _, rfl, ?_⟩
    rw [jv_len]
    refine ite2 (fun c => ?_) (fun c => ?_)
    · have c' : a.n = 14 := by
        have := V.int.inj (of_decide_eq_true c)
        omega
      refine ⟨(by show 1 ≤ sizeLine; decide), fun z hz => ?_⟩
      have e : Su115.does a (.more p q) = (a, Su115.no (-28)) := by
        show (if a.isP p = false ∨ a.isP q = false then _ else if Su115.PEOPLE ≤ a.n then _ else _) = _
        rw [if_neg (fun z => z.elim (isP_true hpn) (isP_true hqn)), if_pos (by show 14 ≤ a.n; omega)]
      rw [step_some, e] at kk
      exact kk.new rfl hj (same_new hz _) hz upd_same
    · have c' : ¬ a.n = 14 := fun z => c (decide_eq_true (by rw [z]; rfl))
      have e : Su115.does a (.more p q) = (a, Su115.num ((⟨a.up ++ [q]⟩ : Abs).from_ p) [a.from_ p]) := by
        show (if a.isP p = false ∨ a.isP q = false then _ else if Su115.PEOPLE ≤ a.n then _ else _) = _
        rw [if_neg (fun z => z.elim (isP_true hpn) (isP_true hqn)), if_neg (by show ¬ 14 ≤ a.n; omega)]
      rw [step_some, e] at kk
      have hn1 : (⟨a.up ++ [q]⟩ : Abs).n = a.n + 1 := by
        show (a.up ++ [q]).length + 1 = a.up.length + 1 + 1
        rw [List.length_append]
        rfl
      have hw1 : Wf (⟨a.up ++ [q]⟩ : Abs) := wf_snoc hj.wf hqn
      have hp1 : p < (⟨a.up ++ [q]⟩ : Abs).n := by omega
      refine ⟨_, rfl, l, _, _, _, rfl, rfl, SqL.of hl, rfl, ?_⟩
      refine ⟨_, rfl, _, rfl, l, _, _, _, rfl, rfl, SqL.of hl, rfl, (by show 1 ≤ sizeLine; decide), fun y hy => ?_⟩
      have s1 := same_new hy (.lst [I q])
      refine ⟨j, y, _, _, rfl, rfl, s1 _ _ hj.lst, upd_same, ?_, fun z hz => ?_⟩
      · rw [jv_len, List.length_singleton]
        exact Nat.le_of_lt (small1000 (by omega))
      · have s2 := same_new hz (.lst (jv a ++ [I q]))
        refine ⟨_, rfl, _, rfl, z, (⟨a.up ++ [q]⟩ : Abs), p, p, rfl, ⟨by rw [jv_snoc]; exact upd_same, hw1, by omega⟩, hp1, Nat.le_trans card_le (by omega), fun H1 s3 => ?_⟩
        refine ⟨_, rfl, _, rfl, _, rfl, j, a, p, p, rfl, ((hj.same s1).same s2).same s3, hpn, Nat.le_trans card_le hle, fun H2 s4 => ?_⟩
        refine ⟨(by show 2 ≤ sizeLine; decide), fun x hx => ?_⟩
        have sA := ((s1.trans s2).trans s3).trans s4
        refine kk.new rfl hj (sA.trans (same_new hx _)) (sA.free hx) ?_
        rw [upd_same, outL_num, hr_nobody hw1 hp1, hr_nobody hj.wf hpn]
        rfl
end
end NT
end
section
set_option Elab.async false
set_option linter.all false
set_option maxRecDepth 100000
set_option maxHeartbeats 2000000
namespace NT
open PySem PySem.Spec PyProof.Rows L2
open Su115 (Abs Call)
open TM NM
theorem dec_pos {p : Nat} {args : List Int} {x : Call} (d : Dec p args x) : ∀ z ∈ args, 0 ≤ z := by
  cases d with
  | could a l h =>
    intro z hz
    rcases List.mem_cons.mp hz with e | hz
    · omega
    · rcases List.mem_cons.mp hz with e | hz
      · omega
      · obtain ⟨n, _, rfl⟩ := List.mem_map.mp hz
        omega
  | begin_ | drop | least | all | ends | state => intro z hz; cases hz
  | join a | hours a | plan a | first a | near a =>
    intro z hz
    rw [List.mem_singleton.mp hz]
    omega
  | order a b | by_ a b | part a b | far a b | between a b | more a b =>
    intro z hz
    rcases List.mem_cons.mp hz with e | hz
    · omega
    · rw [List.mem_singleton.mp hz]
      omega
theorem isP_false {a : Abs} {p : Nat} (h : ¬ p < a.n) : a.isP p = false := decide_eq_false h
/-- somebody isn't there -/
theorem dec_none {a : Abs} {p : Nat} {args : List Int} {x : Call} (d : Dec p args x) (h : ¬ Pers a p args) : Su115.does a x = (a, Su115.no (-2)) := by
  have one : ∀ {p q : Nat} {r : List Int}, PEO.getD q 0 = 1 → ¬ Pers a q ((p : Int) :: r) → a.isP p = false := fun {p q r} e h => isP_false fun z => h fun y hy => by
    rw [e] at hy
    have hy : y ∈ [(p : Int)] := hy
    rw [List.mem_singleton.mp hy]
    omega
  have two : ∀ {p q k : Nat}, PEO.getD k 0 = 2 → ¬ Pers a k [(p : Int), (q : Int)] → a.isP p = false ∨ a.isP q = false := fun {p q k} e h => by
    by_cases z : p < a.n
    · refine .inr (isP_false fun z2 => h fun y hy => ?_)
      rw [e] at hy
      have hy : y ∈ [(p : Int), (q : Int)] := hy
      rcases List.mem_cons.mp hy with e | hy
      · omega
      · rw [List.mem_singleton.mp hy]
        omega
    · exact .inl (isP_false z)
  have zero : ∀ {k : Nat}, ¬ Pers a k [] → False := fun {k} h => h fun y hy => by
    rw [List.take_nil] at hy
    cases hy
  cases d with
  | begin_ => exact (zero h).elim
  | drop => exact (zero h).elim
  | least => exact (zero h).elim
  | all => exact (zero h).elim
  | ends => exact (zero h).elim
  | state => exact (zero h).elim
  | join p => exact if_pos (one rfl h)
  | hours p => exact if_pos (one rfl h)
  | plan p => exact if_pos (one rfl h)
  | first p => exact if_pos (one rfl h)
  | near p => exact if_pos (one rfl h)
  | could p l _ => exact if_pos (one rfl h)
  | by_ p b => exact if_pos (one rfl h)
  | order p q => exact if_pos (two rfl h)
  | part p q => exact if_pos (two rfl h)
  | far p q => exact if_pos (two rfl h)
  | between p q => exact if_pos (two rfl h)
  | more p q => exact if_pos (two rfl h)
theorem step_none {p : Nat} {args : List Int} {x : Call} (d : Dec p args x) (h : p ≠ 0) : Su115.step none x = (none, Su115.no (-11)) := by
  cases d with
  | begin_ => exact absurd rfl h
  | _ => rfl
theorem peo_at {p : Nat} {args : List Int} {x : Call} (d : Dec p args x) : ∃ n : Nat, (PEO.map V.int)[p]? = some (I n) ∧ (PEO.getD p 0).toNat = n := by
  cases d <;> exact ⟨_, rfl, rfl⟩
theorem cut_front {args : List Int} {n : Nat} : cutV (args.map V.int) none (some (n : Int)) = (args.take n).map V.int := by
  unfold cutV
  rw [HT.sIx_nat, HT.sIx_none, List.drop_zero, Nat.sub_zero, List.length_map, ← List.map_take]
  congr 1
  by_cases h : n ≤ args.length
  · rw [Nat.min_eq_left h]
  · rw [Nat.min_eq_right (by omega), List.take_length, List.take_of_length_le (by omega)]
/-- the defs that answer, by the call's number -/
structure Answ (P : Program) (w : World) (K : PySem.W.Frag) (mg : Str → Option Value) (base : Heap) (k n : Nat) (fs : List Addr) : Prop where
  tup : CstT K mg "ANSWERERS" (fs.map V.ref)
  len : fs.length = n
  at0 : ∀ f, fs[0]? = some f → ∃ fd, FnOk P w K mg base CX0 k f fd p2 spBegin ∧ L2.Binds K fd p2 [] ∧ PySem.W.keepIn K (.ref f) = true
  at_ : ∀ p f, p ≠ 0 → fs[p]? = some f → ∃ fd, FnOk P w K mg base CX0 k f fd p2 (spOf p) ∧ L2.Binds K fd p2 [] ∧ PySem.W.keepIn K (.ref f) = true
def spAnw9 (n : Nat) : Sp := fun vs H Q E => ∃ (j l : Addr) (s : Option Abs) (p : Nat) (args : List Int) (x : Call), p < n ∧ vs = [.ref j, I p, .ref l] ∧ SAt H j s ∧ H l = some (.lst (args.map V.int)) ∧ j ≠ l ∧ Dec p args x ∧ After H j Q (Su115.step s x)
section
variable {P : Program} {w : World} {K : PySem.W.Frag} {mg : Str → Option Value} {base : Heap}
theorem scAnw : FnScope ["joined", "call", "numbers", "person", "answerer"] ["joined", "call", "numbers"] (defScope sAnw) := ⟨rfl, rfl, rfl, by decide +kernel, rfl, by decide +kernel, by decide +kernel⟩
def many : Option Abs → Nat
  | none => 0
  | some a => a.n
theorem sat_lst {H : Hp} {j : Addr} : ∀ {s : Option Abs}, SAt H j s → ∃ xs, H j = some (.lst xs) ∧ xs.length = many s
  | none, h => ⟨[], h, rfl⟩
  | some a, h => ⟨_, JAt.lst h, jv_len a⟩
theorem ok_anw {f : Addr} {fd : FuncData} {k n : Nat} {fs : List Addr} (F : Fun K "answer" "answer" sAnw f fd) (B : Bt mg) (C : Consts mg) (Pp : CstT K mg "PEOPLE" (PEO.map V.int)) (W : Answ P w K mg base k n fs) : FnOk P w K mg base CX0 (k + 1) f fd ["joined", "call", "numbers"] (spAnw9 n) := by
  obtain ⟨t1, c1⟩ := C.begin_
  obtain ⟨t2, c2⟩ := C.notBegun
  obtain ⟨t3, c3⟩ := C.noneSuch
  obtain ⟨ap, hap, hP⟩ := Pp
  obtain ⟨at_, hat, hT⟩ := W.tup
  refine F.ok scAnw (fun vs H Q E h => ?_) (fun cdv A outer s H vs Q E hr h => ?_)
  · obtain ⟨j, l, s, p, args, x, _, rfl, _⟩ := h
    rfl
  · obtain ⟨j, l, st, p, args, x, hpn, rfl, hst, hl, hjl, dec, kk⟩ := h
    refine ⟨_, pss_cons (ps_if (PW.pt (pw_and (pt_cmpR op_ne (pv 1) (pe_glob (v := .int 0) rfl c1 ⟨t1, rfl⟩) (nomark _)) (pw_and1 (pt_cmpR op_eq (pe_callB call_len_seq rfl B.len PySem.boot_len (pa_cons (pv 0) pa_nil)) pe_int (nomark _))))) (pss_one (ps_ret (pe_lst (pa_cons (pe_glob (v := .int (-11)) rfl c2 ⟨t2, rfl⟩) pa_nil)))) pss_nil)
      (pss_cons (ps_for PassesOwn.never rfl (pi_list (pe_slice sl_list (pv 2) po_none (po_some (pe_ix ix_tup (pe_glob (v := .ref ap) rfl hap rfl) (pv 1) (fun _ _ => rfl))))) (pg_name (i := 3) scAnw.nd rfl (Or.inl rfl))
        (pss_one (ps_if (pt_not (pt_chain op_le op_lt pe_int (pv 3) (pe_callB call_len_seq rfl B.len PySem.boot_len (pa_cons (pv 0) pa_nil)))) (pss_one (ps_ret (pe_lst (pa_cons (pe_glob (v := .int (-2)) rfl c3 ⟨t3, rfl⟩) pa_nil)))) pss_nil)))
      (pss_cons (ps_set (i := 4) scAnw.nd rfl (Or.inl rfl) (pe_ix ix_tup (pe_glob (v := .ref at_) rfl hat rfl) (pv 1) (fun _ _ => rfl)))
      (pss_one (ps_ret (pe_callV 4 (pa_cons (pv 0) (pa_cons (pv 2) pa_nil))))))), ?_⟩
    obtain ⟨xs, hxs, hxl⟩ := sat_lst hst
    refine ⟨_, rfl, rfl, _, rfl, ite2 (fun c => ?_) (fun c => ?_)⟩
    case' refine_1 =>
      have p0 : p ≠ 0 := fun z => by
        rw [z] at c
        have c : (!decide (V.int 0 = V.int 0)) = true := c
        rw [decide_eq_true rfl] at c
        cases c
      refine ⟨_, rfl, j, xs, rfl, .inl (SqL.of hxs), rfl, _, rfl, ite2 (fun c2 => ?_) (fun c2 => ?_)⟩
      case' refine_1 =>
        have z0 : st = none := by
          have e := V.int.inj (of_decide_eq_true c2)
          cases st with
          | none => rfl
          | some a =>
            have := n_pos a
            have hxl : xs.length = a.n := hxl
            omega
        subst z0
        rw [step_none dec p0] at kk
        refine ⟨(by show 1 ≤ sizeLine; decide), fun q hq => ?_⟩
        exact kk _ q ((same_new hq _).but j) (hst.same (same_new hq _)) hq upd_same
      case' refine_2 =>
        have good : p ≠ 0 → ∃ a, st = some a := fun _ => by
          cases st with
          | none =>
            have hxl : xs.length = 0 := hxl
            exact absurd (decide_eq_true (by rw [hxl]; rfl)) c2
          | some a => exact ⟨a, rfl⟩
    case' refine_2 =>
      have good : p ≠ 0 → ∃ a, st = some a := fun z => absurd (by rw [decide_eq_false (show ¬ I p = V.int 0 from fun e => z (I_inj (m := 0) e))]; rfl) c
      refine iteF ?_
    all_goals
      obtain ⟨np, hnp, enp⟩ := peo_at dec
      refine ⟨_, rfl, _, rfl, ap, _, _, _, rfl, rfl, hP _, atI_nat hnp, _, rfl, l, _, rfl, SqL.of hl, fun z hz => ?_⟩
      rw [cut_front]
      have s1 := same_new hz (.lst ((args.take np).map V.int))
      have hxs1 := s1 _ _ hxs
      refine ⟨z, rfl, ⟨_, SqL.of upd_same⟩, ?_⟩
      refine for_list (K := K) (a := z) (xs := (args.take np).map V.int) (fun i σ H' => ∃ v3 : Option V, σ = [some (.ref j), some (I p), some (.ref l), v3, none] ∧ H' = upd H z (.lst ((args.take np).map V.int)) ∧ ∀ y ∈ (args.take np).take i, y < ((many st : Nat) : Int))
        ⟨none, rfl, rfl, fun y hy => by rw [List.take_zero] at hy; cases hy⟩ (fun i σ H' _ ⟨_, _, e, _⟩ => by rw [e]; exact SqL.of upd_same) ?_ ?_
      · rintro i y σ H' hy ⟨v3, rfl, rfl, hall⟩
        obtain ⟨u, hu, rfl⟩ : ∃ u, (args.take np)[i]? = some u ∧ y = V.int u := by
          rw [List.getElem?_map] at hy
          cases e : (args.take np)[i]? with
          | none => rw [e] at hy; cases hy
          | some u => rw [e] at hy; exact ⟨u, rfl, (Option.some.inj hy).symm⟩
        have mu : u ∈ args := List.mem_of_mem_take (List.mem_of_getElem? hu)
        have hu0 := dec_pos dec u mu
        refine ⟨_, rfl, _, _, rfl, rfl, _, rfl, ite2 (fun d => ?_) (fun d => ?_)⟩
        · refine ⟨_, rfl, j, xs, rfl, .inl (SqL.of hxs1), _, _, rfl, rfl, _, rfl, ?_⟩
          rw [hxl]
          refine ite2 (fun d2 => ?_) (fun d2 => ?_)
          · have ge : ¬ u < ((many st : Nat) : Int) := fun q => by
              rw [decide_eq_true q] at d2
              cases d2
            have hp0 : p ≠ 0 := fun q => by
              subst q
              cases dec
              rw [List.take_nil] at hu
              cases hu
            obtain ⟨a, rfl⟩ := good hp0
            rw [step_some, dec_none dec fun q => ge (q u (by rw [enp]; exact List.mem_of_getElem? hu))] at kk
            refine ⟨(by show 1 ≤ sizeLine; decide), fun q hq => ?_⟩
            exact kk.new rfl hst (s1.trans (same_new hq _)) (s1.free hq) upd_same
          · have lt : u < ((many st : Nat) : Int) := by
              by_cases q : u < ((many st : Nat) : Int)
              · exact q
              · rw [decide_eq_false q] at d2
                exact absurd rfl d2
            refine ⟨_, rfl, rfl, fun y hy => ?_⟩
            rw [List.take_add_one, hu] at hy
            rcases List.mem_append.mp hy with hy | hy
            · exact hall y hy
            · have hy : y ∈ [u] := hy
              rw [List.mem_singleton.mp hy]
              exact lt
        · exact absurd (decide_eq_true hu0) d
      · rintro σ H' ⟨v3, rfl, rfl, hall⟩
        rw [List.length_map, List.take_length] at hall
        obtain ⟨fa, hfa⟩ : ∃ fa, fs[p]? = some fa := ⟨_, List.getElem?_eq_getElem (by rw [W.len]; exact hpn)⟩
        refine ⟨_, rfl, at_, _, _, _, rfl, rfl, hT _, atI_nat (j := p) (v := V.ref fa) (by rw [List.getElem?_map, hfa]; rfl), ?_⟩
        have kk1 : After (upd H z (.lst ((args.take np).map V.int))) j Q (Su115.step st x) := fun H' q sb hs hq h => kk H' q (fun b o nb e => sb b o nb (s1 _ _ e)) hs (s1.free hq) h
        by_cases p0 : p = 0
        · subst p0
          obtain ⟨fd', F1, F2, F3⟩ := W.at0 fa hfa
          refine ⟨fa, fd', p2, k, spBegin, rfl, F1, hr, F3, F2, _, rfl, _, rfl, j, l, st, rfl, hst.same s1, ?_⟩
          cases dec
          exact kk1
        · obtain ⟨a, rfl⟩ := good p0
          obtain ⟨fd', F1, F2, F3⟩ := W.at_ p fa p0 hfa
          refine ⟨fa, fd', p2, k, spOf p, rfl, F1, hr, F3, F2, _, rfl, _, rfl, j, l, a, args, x, rfl, JAt.same hst s1, s1 _ _ hl, hjl, dec, ?_, kk1⟩
          intro y hy
          rw [enp] at hy
          exact hall y hy
end
end NT
end
section
set_option Elab.async false
set_option linter.all false
set_option maxRecDepth 100000
set_option maxHeartbeats 2000000
namespace NT
open PySem PySem.Spec PyProof.Rows L2
open Su115 (Abs Call)
open TM NM
/-- whom ANSWERERS names, in order -/
def NAM : List Str := ["answer_begin", "answer_join", "answer_drop", "answer_hours", "answer_plan", "answer_order", "answer_could", "answer_by", "answer_part", "answer_far", "answer_between", "answer_first", "answer_more", "answer_least", "answer_all", "answer_near", "answer_ends", "answer_state"]
structure AllTxt (K : PySem.W.Frag) (mg : Str → Option Value) : Prop where
  tree : TreeTxt K mg
  ends : Here K mg "ends" ["joined"] sEnds
  way : Here K mg "way" ["joined", "one", "other"] sWay
  he : Here K mg "hours_from_each" ["joined"] sHE
  cnt : Here K mg "counted" ["people"] sCnt
  a0 : Here K mg "answer_begin" p2 sABegin
  a1 : Here K mg "answer_join" p2 sAJoin
  a2 : Here K mg "answer_drop" p2 sADrop
  a3 : Here K mg "answer_hours" p2 sAHours
  a4 : Here K mg "answer_plan" p2 sAPlan
  a5 : Here K mg "answer_order" p2 sAOrder
  a6 : Here K mg "answer_could" p2 sACould
  a7 : Here K mg "answer_by" p2 sABy
  a8 : Here K mg "answer_part" p2 sAPart
  a9 : Here K mg "answer_far" p2 sAFar
  a10 : Here K mg "answer_between" p2 sABetween
  a11 : Here K mg "answer_first" p2 sAFirst
  a12 : Here K mg "answer_more" p2 sAMore
  a13 : Here K mg "answer_least" p2 sALeast
  a14 : Here K mg "answer_all" p2 sAAll
  a15 : Here K mg "answer_near" p2 sANear
  a16 : Here K mg "answer_ends" p2 sAEnds
  a17 : Here K mg "answer_state" p2 sAState
  cl : Here K mg "call_length" ["calls", "start"] sCL
  anw : Here K mg "answer" ["joined", "call", "numbers"] sAnw
  ans : Here K mg "answers" ["calls"] sAns
  consts : Consts mg
  news : NewsTxt K mg
  people : CstT K mg "PEOPLE" (PEO.map V.int)
  tup : ∃ fs : List Addr, CstT K mg "ANSWERERS" (fs.map V.ref) ∧ NAM.map mg = fs.map fun f => some (Value.ref f)
theorem dec_lt {p : Nat} {args : List Int} {x : Call} (d : Dec p args x) : p < 18 := by
  cases d <;> decide
section
variable {P : Program} {w : World} {K : PySem.W.Frag} {mg : Str → Option Value} {base : Heap}
theorem Df.at {x : Str} {ps : List Str} {k : Nat} {sp : Sp} {f : Addr} (d : Df P w K mg base x ps k sp) (h : mg x = some (.ref f)) : ∃ fd, FnOk P w K mg base CX0 k f fd ps sp ∧ L2.Binds K fd ps [] ∧ PySem.W.keepIn K (.ref f) = true := by
  obtain ⟨g, fd, F, b, kp, m⟩ := d.ex
  have e : g = f := by
    rw [m] at h
    cases h
    rfl
  subst e
  exact ⟨fd, F, b, kp⟩
theorem nam_at {fs : List Addr} {i : Nat} {f : Addr} {x : Str} (hn : NAM[i]? = some x) (e : NAM.map mg = fs.map fun f => some (Value.ref f)) (hf : fs[i]? = some f) : mg x = some (.ref f) := by
  have h1 : (NAM.map mg)[i]? = some (mg x) := by rw [List.getElem?_map, hn]; rfl
  rw [e, List.getElem?_map, hf] at h1
  exact (Option.some.inj h1).symm
variable (T : AllTxt K mg)
include T
theorem df_cnt : Df P w K mg base "counted" ["people"] 1 spCnt := T.cnt.df fun _ _ F => ok_cnt F T.tree.bt
theorem df_way : Df P w K mg base "way" ["joined", "one", "other"] 1 spWay := T.way.df fun _ _ F => ok_way F T.tree.bt
theorem df_ends : Df P w K mg base "ends" ["joined"] 3 spEnds := T.ends.df fun _ _ F => ok_ends F T.tree.bt (df_side T.tree)
theorem df_he : Df P w K mg base "hours_from_each" ["joined"] 31 spHE := T.he.df fun _ _ F => ok_he F T.tree.bt (df_need T.tree 14).1
theorem df_a0 : Df P w K mg base "answer_begin" p2 46 spBegin := (T.a0.df fun _ _ F => ok_abegin F T.consts : Df P w K mg base "answer_begin" p2 1 spBegin).mono (by decide)
theorem df_a1 : Df P w K mg base "answer_join" p2 46 (spOf 1) := (T.a1.df fun _ _ F => ok_ajoin F T.tree.bt T.consts : Df P w K mg base "answer_join" p2 1 (spOf 1)).mono (by decide)
theorem df_a2 : Df P w K mg base "answer_drop" p2 46 (spOf 2) := (T.a2.df fun _ _ F => ok_adrop F T.tree.bt T.consts : Df P w K mg base "answer_drop" p2 1 (spOf 2)).mono (by decide)
theorem df_a3 : Df P w K mg base "answer_hours" p2 31 (spOf 3) := T.a3.df fun _ _ F => ok_ahours F (df_need T.tree 14).1
theorem df_a4 : Df P w K mg base "answer_plan" p2 46 (spOf 4) := T.a4.df fun _ _ F => ok_aplan F (df_a3 T) (df_ph T.tree) (by decide)
theorem df_a5 : Df P w K mg base "answer_order" p2 46 (spOf 5) := (T.a5.df fun _ _ F => ok_aorder F T.tree.bt T.consts (df_cnt T) (df_jn T.tree) (df_co T.tree) (by decide) : Df P w K mg base "answer_order" p2 31 (spOf 5)).mono (by decide)
theorem df_a6 : Df P w K mg base "answer_could" p2 46 (spOf 6) := (T.a6.df fun _ _ F => ok_acould F T.tree.bt T.consts (df_cb T.tree) : Df P w K mg base "answer_could" p2 18 (spOf 6)).mono (by decide)
theorem df_a7 : Df P w K mg base "answer_by" p2 46 (spOf 7) := T.a7.df fun _ _ F => ok_aby F T.tree.bt (df_ph T.tree)
theorem df_a8 : Df P w K mg base "answer_part" p2 46 (spOf 8) := (T.a8.df fun _ _ F => ok_apart F T.consts (df_jn T.tree) (df_need T.tree 14).1 (df_size T.tree 14) (by decide) (by decide) : Df P w K mg base "answer_part" p2 31 (spOf 8)).mono (by decide)
theorem df_a9 : Df P w K mg base "answer_far" p2 46 (spOf 9) := (T.a9.df fun _ _ F => ok_afar F T.tree.bt (df_way T) : Df P w K mg base "answer_far" p2 2 (spOf 9)).mono (by decide)
theorem df_a10 : Df P w K mg base "answer_between" p2 46 (spOf 10) := (T.a10.df fun _ _ F => ok_abetween F (df_cnt T) (df_way T) (by decide) : Df P w K mg base "answer_between" p2 2 (spOf 10)).mono (by decide)
theorem df_a11 : Df P w K mg base "answer_first" p2 46 (spOf 11) := (T.a11.df fun _ _ F => ok_afirst F T.tree.bt T.consts (df_need T.tree 14).2 : Df P w K mg base "answer_first" p2 30 (spOf 11)).mono (by decide)
theorem df_a12 : Df P w K mg base "answer_more" p2 46 (spOf 12) := (T.a12.df fun _ _ F => ok_amore F T.tree.bt T.consts (df_need T.tree 14).1 : Df P w K mg base "answer_more" p2 31 (spOf 12)).mono (by decide)
theorem df_a13 : Df P w K mg base "answer_least" p2 46 (spOf 13) := (T.a13.df fun _ _ F => ok_aleast F T.tree.bt (df_he T) : Df P w K mg base "answer_least" p2 32 (spOf 13)).mono (by decide)
theorem df_a14 : Df P w K mg base "answer_all" p2 46 (spOf 14) := (T.a14.df fun _ _ F => ok_aall F T.tree.bt (df_he T) : Df P w K mg base "answer_all" p2 32 (spOf 14)).mono (by decide)
theorem df_a15 : Df P w K mg base "answer_near" p2 46 (spOf 15) := (T.a15.df fun _ _ F => ok_anear F (df_cnt T) (df_side T.tree) (by decide) : Df P w K mg base "answer_near" p2 3 (spOf 15)).mono (by decide)
theorem df_a16 : Df P w K mg base "answer_ends" p2 46 (spOf 16) := (T.a16.df fun _ _ F => ok_aends F (df_cnt T) (df_ends T) (by decide) : Df P w K mg base "answer_ends" p2 4 (spOf 16)).mono (by decide)
theorem df_a17 : Df P w K mg base "answer_state" p2 46 (spOf 17) := (T.a17.df fun _ _ F => ok_astate F T.tree.bt : Df P w K mg base "answer_state" p2 1 (spOf 17)).mono (by decide)
theorem answ_of : ∃ fs : List Addr, Answ P w K mg base 46 18 fs := by
  obtain ⟨fs, ht, e⟩ := T.tup
  have hlen : fs.length = 18 := by
    have := congrArg List.length e
    rw [List.length_map, List.length_map] at this
    exact this.symm
  refine ⟨fs, ht, hlen, fun f hf => (df_a0 T).at (nam_at rfl e hf), fun p f p0 hf => ?_⟩
  have hp : p < 18 := by
    have := (List.getElem?_eq_some_iff.mp hf).1
    omega
  match p, hp with
  | 0, _ => exact absurd rfl p0
  | 1, _ => exact (df_a1 T).at (nam_at rfl e hf)
  | 2, _ => exact (df_a2 T).at (nam_at rfl e hf)
  | 3, _ => exact ((df_a3 T).mono (by decide)).at (nam_at rfl e hf)
  | 4, _ => exact (df_a4 T).at (nam_at rfl e hf)
  | 5, _ => exact (df_a5 T).at (nam_at rfl e hf)
  | 6, _ => exact (df_a6 T).at (nam_at rfl e hf)
  | 7, _ => exact (df_a7 T).at (nam_at rfl e hf)
  | 8, _ => exact (df_a8 T).at (nam_at rfl e hf)
  | 9, _ => exact (df_a9 T).at (nam_at rfl e hf)
  | 10, _ => exact (df_a10 T).at (nam_at rfl e hf)
  | 11, _ => exact (df_a11 T).at (nam_at rfl e hf)
  | 12, _ => exact (df_a12 T).at (nam_at rfl e hf)
  | 13, _ => exact (df_a13 T).at (nam_at rfl e hf)
  | 14, _ => exact (df_a14 T).at (nam_at rfl e hf)
  | 15, _ => exact (df_a15 T).at (nam_at rfl e hf)
  | 16, _ => exact (df_a16 T).at (nam_at rfl e hf)
  | 17, _ => exact (df_a17 T).at (nam_at rfl e hf)
  | p + 18, hp => omega
theorem df_anw : Df P w K mg base "answer" ["joined", "call", "numbers"] 47 spAnw := by
  obtain ⟨fs, W⟩ := answ_of (P := P) (w := w) (base := base) T
  have d : Df P w K mg base "answer" ["joined", "call", "numbers"] 47 (spAnw9 18) := T.anw.df fun _ _ F => ok_anw F T.tree.bt T.consts T.people W
  refine d.imp fun vs H Q E h => ?_
  obtain ⟨j, l, s, p, args, x, e, h1, h2, h3, dec, k⟩ := h
  exact ⟨j, l, s, p, args, x, dec_lt dec, e, h1, h2, h3, dec, k⟩
theorem df_cl : Df P w K mg base "call_length" ["calls", "start"] 1 (spCL K) := T.cl.df fun _ _ F => ok_cl F T.news
theorem all_ok : ∃ (f : Addr) (fd : FuncData), Fun K "answers" "answers" sAns f fd ∧ mg "answers" = some (.ref f) ∧ ∀ (P : Program) (w : World) (base : Heap), FnOk P w K mg base CX0 48 f fd ["calls"] (spAns K) := by
  obtain ⟨f, fd, F, b, m⟩ := T.ans.ex
  exact ⟨f, fd, F, m, fun P w base => ok_ans F T.tree.bt (df_cl T) (df_anw T) (by decide)⟩
end
/-! ### what the head finds -/
section
variable {K : PySem.W.Frag} {h : Heap} {mg : Str → Option Value}
theorem here_mk {x : Str} {ps : List Str} {st : Stmt} (X : K.In h) (G : h.Ns mainGlobals mg)
    (bd : ∀ (kV doc pm : Value) (an : Option Addr) (cdv ct : Value) (us : List Value), us.length = ps.length → bindArgs (PySem.W.fnOf x x (defArgs st) (defBody st) (defScope st) .none kV doc pm an cdv ct) ⟨us, []⟩ = pure (ps.zip us))
    {f : Addr} {od an : Option Addr} {sl : Array (Option Value)} {oc kV dc pm cd ct : Value}
    (a : PySem.W.nsIn K mainGlobals x = some (some (.ref f))) (l : K.lookup f = some ⟨oc, od, .func (PySem.W.fnOf x x (defArgs st) (defBody st) (defScope st) .none kV dc pm an cd ct), sl⟩) (c : PySem.W.codeIn K cd x = true) (k : PySem.W.keepIn K (.ref f) = true) : Here K mg x ps st := by
  have F := fun_mk (st := st) l c k
  exact ⟨f, _, F, F.binds bd, PySem.W.mg_of X G a⟩
theorem cst_mk {x : Str} {z : Int} (X : K.In h) (G : h.Ns mainGlobals mg) {t : Tok} (a : PySem.W.nsIn K mainGlobals x = some (some (.int z t))) : Cst mg x z := ⟨t, PySem.W.mg_of X G a⟩
theorem vals_abs : ∀ {us : List Value} {xs : List V}, us.map absV = xs.map some → (∀ x ∈ xs, ∃ i, x = V.int i) → Vals xs us
  | [], [], _, _ => .nil
  | u :: us, [], e, _ => by cases e
  | [], x :: xs, e, _ => by cases e
  | u :: us, x :: xs, e, hx => by
    rw [List.map_cons, List.map_cons] at e
    have e1 := (List.cons.inj e).1
    have e2 := (List.cons.inj e).2
    refine .cons ?_ (vals_abs e2 fun y hy => hx y (List.mem_cons_of_mem _ hy))
    obtain ⟨i, rfl⟩ := hx x List.mem_cons_self
    cases u with
    | int j t =>
      have : V.int j = V.int i := Option.some.inj e1
      cases this
      exact ⟨t, rfl⟩
    | none => cases e1
    | _ => cases e1
theorem cstT_mk {x : Str} {ns : List Int} (X : K.In h) (G : h.Ns mainGlobals mg) {a : Addr} {od : Option Addr} {its : Array Value} {n : Nat} {sl : Array (Option Value)}
    (ha : PySem.W.nsIn K mainGlobals x = some (some (.ref a))) (l : K.lookup a = some ⟨.type "tuple", od, .seq its n, sl⟩) (hz : its.size ≤ 1000) (hv : its.toList.map absV = (ns.map V.int).map some) : CstT K mg x (ns.map V.int) :=
  ⟨a, PySem.W.mg_of X G ha, fun H => .inr ⟨_, its, n, l, rfl, rfl, Nat.le_of_lt (small1000 hz), vals_abs hv fun y hy => by
    obtain ⟨i, _, e⟩ := List.mem_map.mp hy
    exact ⟨i, e.symm⟩⟩⟩
theorem refs_vals : ∀ fs : List Addr, Vals (fs.map V.ref) (fs.map Value.ref)
  | [] => .nil
  | f :: fs => .cons rfl (refs_vals fs)
theorem tup_mk (X : K.In h) (G : h.Ns mainGlobals mg) {a f0 f1 f2 f3 f4 f5 f6 f7 f8 f9 f10 f11 f12 f13 f14 f15 f16 f17 : Addr} {od : Option Addr} {n : Nat} {sl : Array (Option Value)}
    (ha : PySem.W.nsIn K mainGlobals "ANSWERERS" = some (some (.ref a)))
    (l : K.lookup a = some ⟨.type "tuple", od, .seq #[.ref f0, .ref f1, .ref f2, .ref f3, .ref f4, .ref f5, .ref f6, .ref f7, .ref f8, .ref f9, .ref f10, .ref f11, .ref f12, .ref f13, .ref f14, .ref f15, .ref f16, .ref f17] n, sl⟩)
    (h0 : PySem.W.nsIn K mainGlobals "answer_begin" = some (some (.ref f0)))
    (h1 : PySem.W.nsIn K mainGlobals "answer_join" = some (some (.ref f1)))
    (h2 : PySem.W.nsIn K mainGlobals "answer_drop" = some (some (.ref f2)))
    (h3 : PySem.W.nsIn K mainGlobals "answer_hours" = some (some (.ref f3)))
    (h4 : PySem.W.nsIn K mainGlobals "answer_plan" = some (some (.ref f4)))
    (h5 : PySem.W.nsIn K mainGlobals "answer_order" = some (some (.ref f5)))
    (h6 : PySem.W.nsIn K mainGlobals "answer_could" = some (some (.ref f6)))
    (h7 : PySem.W.nsIn K mainGlobals "answer_by" = some (some (.ref f7)))
    (h8 : PySem.W.nsIn K mainGlobals "answer_part" = some (some (.ref f8)))
    (h9 : PySem.W.nsIn K mainGlobals "answer_far" = some (some (.ref f9)))
    (h10 : PySem.W.nsIn K mainGlobals "answer_between" = some (some (.ref f10)))
    (h11 : PySem.W.nsIn K mainGlobals "answer_first" = some (some (.ref f11)))
    (h12 : PySem.W.nsIn K mainGlobals "answer_more" = some (some (.ref f12)))
    (h13 : PySem.W.nsIn K mainGlobals "answer_least" = some (some (.ref f13)))
    (h14 : PySem.W.nsIn K mainGlobals "answer_all" = some (some (.ref f14)))
    (h15 : PySem.W.nsIn K mainGlobals "answer_near" = some (some (.ref f15)))
    (h16 : PySem.W.nsIn K mainGlobals "answer_ends" = some (some (.ref f16)))
    (h17 : PySem.W.nsIn K mainGlobals "answer_state" = some (some (.ref f17))) :
    ∃ fs : List Addr, CstT K mg "ANSWERERS" (fs.map V.ref) ∧ NAM.map mg = fs.map fun f => some (Value.ref f) := by
  refine ⟨[f0, f1, f2, f3, f4, f5, f6, f7, f8, f9, f10, f11, f12, f13, f14, f15, f16, f17], ⟨a, PySem.W.mg_of X G ha, fun H => .inr ⟨_, _, n, l, rfl, rfl, ?_, refs_vals [f0, f1, f2, f3, f4, f5, f6, f7, f8, f9, f10, f11, f12, f13, f14, f15, f16, f17]⟩⟩, ?_⟩
  · exact Nat.le_of_lt (small1000 (show 18 ≤ 1000 by decide))
  · unfold NAM
    simp only [List.map_cons, List.map_nil]
    rw [PySem.W.mg_of X G h0, PySem.W.mg_of X G h1, PySem.W.mg_of X G h2, PySem.W.mg_of X G h3, PySem.W.mg_of X G h4, PySem.W.mg_of X G h5, PySem.W.mg_of X G h6, PySem.W.mg_of X G h7, PySem.W.mg_of X G h8, PySem.W.mg_of X G h9, PySem.W.mg_of X G h10, PySem.W.mg_of X G h11, PySem.W.mg_of X G h12, PySem.W.mg_of X G h13, PySem.W.mg_of X G h14, PySem.W.mg_of X G h15, PySem.W.mg_of X G h16, PySem.W.mg_of X G h17]
theorem bt_mk (X : K.In h) (G : h.Ns mainGlobals mg) (z1 : PySem.W.nsIn K mainGlobals "len" = some none) (z2 : PySem.W.nsIn K mainGlobals "range" = some none) (z3 : PySem.W.nsIn K mainGlobals "sum" = some none) (z4 : PySem.W.nsIn K mainGlobals "sorted" = some none) (z5 : PySem.W.nsIn K mainGlobals "enumerate" = some none)
    (z6 : PySem.W.nsIn K mainGlobals "max" = some none) (z7 : PySem.W.nsIn K mainGlobals "min" = some none) (z8 : PySem.W.nsIn K mainGlobals "set" = some none) (z9 : PySem.W.nsIn K mainGlobals "all" = some none) : Bt mg :=
  ⟨PySem.W.mg_none_of X G z1, PySem.W.mg_none_of X G z2, PySem.W.mg_none_of X G z3, PySem.W.mg_none_of X G z4, PySem.W.mg_none_of X G z5, PySem.W.mg_none_of X G z6, PySem.W.mg_none_of X G z7, PySem.W.mg_none_of X G z8, PySem.W.mg_none_of X G z9⟩
/-- the last of F: the function object, how it binds, its promise -/
theorem last_of {fa : Addr} (T : AllTxt K mg) (hmg : mg "answers" = some (.ref fa)) : ∃ fd : FuncData, (∀ (s : Shared) (us : List Value), us.length = (["calls"] : List Str).length → BindsTo s fd ⟨us, []⟩ ((["calls"] : List Str).zip us)) ∧
    ∀ (P : Program) (w : World) (base : Heap), FnOk P w K mg base CX0 60 fa fd ["calls"] (spAns K) := by
  obtain ⟨f, fd, F, m, ok⟩ := all_ok T
  have e : f = fa := by
    rw [m] at hmg
    cases hmg
    rfl
  subst e
  refine ⟨fd, ?_, fun P w base => (ok P w base).mono (by decide)⟩
  obtain ⟨oc, od, kV, doc, pm, an, cdv, ct, osl, rfl, lk, hcd⟩ := F.ex
  exact fun s us hl => match us, hl with | [_], _ => .of_eq rfl
end
end NT
end
section
set_option Elab.async false
set_option linter.all false
open PySem PySem.W PyProof.Rows
set_option maxRecDepth 100000 in
set_option maxHeartbeats 0 in
theorem PySem.Challenge.cw_newstree_s01_answers_holds : PySem.Challenge.rw_newstree_s01_answers.Holds := by
  w_on; k_headS; (case hw => exact ⟨[.list [.int 0]], by decide +kernel, by decide +kernel⟩)
  k_fillS
  refine L2.walk_specK (r := PySem.Challenge.rw_newstree_s01_answers) (k := 60) (CX := L2.CX0) (ps := ["calls"]) (sp := NT.spAns) (by decide +kernel) rfl rfl ⟨rfl, by decide, by decide⟩ (fun w h Y => PySem.W.kIn_of Y) ?F ?S (fun _ _ _ _ z => z)
  case F =>
    intro w mg fa h Y KX G hmg
    have h_jn : NT.Here (L2.KOf KX) mg "are_joined" ["joined", "one", "other"] NT.sJn := by
      dsimp only [L2.KOf]
      refine' NT.here_mk KX G (fun _ _ _ _ _ _ us hl => match us, hl with | [_, _, _], _ => rfl) ?a ?l ?c ?k
      (case a => k_is); (case l => k_is); (case c => k_is); (case k => k_is)
    have h_side : NT.Here (L2.KOf KX) mg "side" NT.p3 NT.sSide := by
      dsimp only [L2.KOf]
      refine' NT.here_mk KX G (fun _ _ _ _ _ _ us hl => match us, hl with | [_, _, _], _ => rfl) ?a ?l ?c ?k
      (case a => k_is); (case l => k_is); (case c => k_is); (case k => k_is)
    have h_size : NT.Here (L2.KOf KX) mg "size" NT.p3 NT.sSize := by
      dsimp only [L2.KOf]
      refine' NT.here_mk KX G (fun _ _ _ _ _ _ us hl => match us, hl with | [_, _, _], _ => rfl) ?a ?l ?c ?k
      (case a => k_is); (case l => k_is); (case c => k_is); (case k => k_is)
    have h_rank : NT.Here (L2.KOf KX) mg "ranked" NT.p3 NT.sRank := by
      dsimp only [L2.KOf]
      refine' NT.here_mk KX G (fun _ _ _ _ _ _ us hl => match us, hl with | [_, _, _], _ => rfl) ?a ?l ?c ?k
      (case a => k_is); (case l => k_is); (case c => k_is); (case k => k_is)
    have h_need : NT.Here (L2.KOf KX) mg "need" NT.p3 NT.sNeed := by
      dsimp only [L2.KOf]
      refine' NT.here_mk KX G (fun _ _ _ _ _ _ us hl => match us, hl with | [_, _, _], _ => rfl) ?a ?l ?c ?k
      (case a => k_is); (case l => k_is); (case c => k_is); (case k => k_is)
    have h_co : NT.Here (L2.KOf KX) mg "calling_order" NT.p3 NT.sCO := by
      dsimp only [L2.KOf]
      refine' NT.here_mk KX G (fun _ _ _ _ _ _ us hl => match us, hl with | [_, _, _], _ => rfl) ?a ?l ?c ?k
      (case a => k_is); (case l => k_is); (case c => k_is); (case k => k_is)
    have h_tell : NT.Here (L2.KOf KX) mg "tell" ["joined", "person", "teller", "hours"] NT.sTell := by
      dsimp only [L2.KOf]
      refine' NT.here_mk KX G (fun _ _ _ _ _ _ us hl => match us, hl with | [_, _, _, _], _ => rfl) ?a ?l ?c ?k
      (case a => k_is); (case l => k_is); (case c => k_is); (case k => k_is)
    have h_ph : NT.Here (L2.KOf KX) mg "plan_hours" ["joined", "person"] NT.sPH := by
      dsimp only [L2.KOf]
      refine' NT.here_mk KX G (fun _ _ _ _ _ _ us hl => match us, hl with | [_, _], _ => rfl) ?a ?l ?c ?k
      (case a => k_is); (case l => k_is); (case c => k_is); (case k => k_is)
    have h_pc : NT.Here (L2.KOf KX) mg "part_could" ["joined", "person", "teller", "hours"] NT.sPC := by
      dsimp only [L2.KOf]
      refine' NT.here_mk KX G (fun _ _ _ _ _ _ us hl => match us, hl with | [_, _, _, _], _ => rfl) ?a ?l ?c ?k
      (case a => k_is); (case l => k_is); (case c => k_is); (case k => k_is)
    have h_cb : NT.Here (L2.KOf KX) mg "could_be" ["joined", "person", "hours"] NT.sCB := by
      dsimp only [L2.KOf]
      refine' NT.here_mk KX G (fun _ _ _ _ _ _ us hl => match us, hl with | [_, _, _], _ => rfl) ?a ?l ?c ?k
      (case a => k_is); (case l => k_is); (case c => k_is); (case k => k_is)
    have h_ends : NT.Here (L2.KOf KX) mg "ends" ["joined"] NT.sEnds := by
      dsimp only [L2.KOf]
      refine' NT.here_mk KX G (fun _ _ _ _ _ _ us hl => match us, hl with | [_], _ => rfl) ?a ?l ?c ?k
      (case a => k_is); (case l => k_is); (case c => k_is); (case k => k_is)
    have h_way : NT.Here (L2.KOf KX) mg "way" ["joined", "one", "other"] NT.sWay := by
      dsimp only [L2.KOf]
      refine' NT.here_mk KX G (fun _ _ _ _ _ _ us hl => match us, hl with | [_, _, _], _ => rfl) ?a ?l ?c ?k
      (case a => k_is); (case l => k_is); (case c => k_is); (case k => k_is)
    have h_he : NT.Here (L2.KOf KX) mg "hours_from_each" ["joined"] NT.sHE := by
      dsimp only [L2.KOf]
      refine' NT.here_mk KX G (fun _ _ _ _ _ _ us hl => match us, hl with | [_], _ => rfl) ?a ?l ?c ?k
      (case a => k_is); (case l => k_is); (case c => k_is); (case k => k_is)
    have h_cnt : NT.Here (L2.KOf KX) mg "counted" ["people"] NT.sCnt := by
      dsimp only [L2.KOf]
      refine' NT.here_mk KX G (fun _ _ _ _ _ _ us hl => match us, hl with | [_], _ => rfl) ?a ?l ?c ?k
      (case a => k_is); (case l => k_is); (case c => k_is); (case k => k_is)
    have h_a0 : NT.Here (L2.KOf KX) mg "answer_begin" NT.p2 NT.sABegin := by
      dsimp only [L2.KOf]
      refine' NT.here_mk KX G (fun _ _ _ _ _ _ us hl => match us, hl with | [_, _], _ => rfl) ?a ?l ?c ?k
      (case a => k_is); (case l => k_is); (case c => k_is); (case k => k_is)
    have h_a1 : NT.Here (L2.KOf KX) mg "answer_join" NT.p2 NT.sAJoin := by
      dsimp only [L2.KOf]
      refine' NT.here_mk KX G (fun _ _ _ _ _ _ us hl => match us, hl with | [_, _], _ => rfl) ?a ?l ?c ?k
      (case a => k_is); (case l => k_is); (case c => k_is); (case k => k_is)
    have h_a2 : NT.Here (L2.KOf KX) mg "answer_drop" NT.p2 NT.sADrop := by
      dsimp only [L2.KOf]
      refine' NT.here_mk KX G (fun _ _ _ _ _ _ us hl => match us, hl with | [_, _], _ => rfl) ?a ?l ?c ?k
      (case a => k_is); (case l => k_is); (case c => k_is); (case k => k_is)
    have h_a3 : NT.Here (L2.KOf KX) mg "answer_hours" NT.p2 NT.sAHours := by
      dsimp only [L2.KOf]
      refine' NT.here_mk KX G (fun _ _ _ _ _ _ us hl => match us, hl with | [_, _], _ => rfl) ?a ?l ?c ?k
      (case a => k_is); (case l => k_is); (case c => k_is); (case k => k_is)
    have h_a4 : NT.Here (L2.KOf KX) mg "answer_plan" NT.p2 NT.sAPlan := by
      dsimp only [L2.KOf]
      refine' NT.here_mk KX G (fun _ _ _ _ _ _ us hl => match us, hl with | [_, _], _ => rfl) ?a ?l ?c ?k
      (case a => k_is); (case l => k_is); (case c => k_is); (case k => k_is)
    have h_a5 : NT.Here (L2.KOf KX) mg "answer_order" NT.p2 NT.sAOrder := by
      dsimp only [L2.KOf]
      refine' NT.here_mk KX G (fun _ _ _ _ _ _ us hl => match us, hl with | [_, _], _ => rfl) ?a ?l ?c ?k
      (case a => k_is); (case l => k_is); (case c => k_is); (case k => k_is)
    have h_a6 : NT.Here (L2.KOf KX) mg "answer_could" NT.p2 NT.sACould := by
      dsimp only [L2.KOf]
      refine' NT.here_mk KX G (fun _ _ _ _ _ _ us hl => match us, hl with | [_, _], _ => rfl) ?a ?l ?c ?k
      (case a => k_is); (case l => k_is); (case c => k_is); (case k => k_is)
    have h_a7 : NT.Here (L2.KOf KX) mg "answer_by" NT.p2 NT.sABy := by
      dsimp only [L2.KOf]
      refine' NT.here_mk KX G (fun _ _ _ _ _ _ us hl => match us, hl with | [_, _], _ => rfl) ?a ?l ?c ?k
      (case a => k_is); (case l => k_is); (case c => k_is); (case k => k_is)
    have h_a8 : NT.Here (L2.KOf KX) mg "answer_part" NT.p2 NT.sAPart := by
      dsimp only [L2.KOf]
      refine' NT.here_mk KX G (fun _ _ _ _ _ _ us hl => match us, hl with | [_, _], _ => rfl) ?a ?l ?c ?k
      (case a => k_is); (case l => k_is); (case c => k_is); (case k => k_is)
    have h_a9 : NT.Here (L2.KOf KX) mg "answer_far" NT.p2 NT.sAFar := by
      dsimp only [L2.KOf]
      refine' NT.here_mk KX G (fun _ _ _ _ _ _ us hl => match us, hl with | [_, _], _ => rfl) ?a ?l ?c ?k
      (case a => k_is); (case l => k_is); (case c => k_is); (case k => k_is)
    have h_a10 : NT.Here (L2.KOf KX) mg "answer_between" NT.p2 NT.sABetween := by
      dsimp only [L2.KOf]
      refine' NT.here_mk KX G (fun _ _ _ _ _ _ us hl => match us, hl with | [_, _], _ => rfl) ?a ?l ?c ?k
      (case a => k_is); (case l => k_is); (case c => k_is); (case k => k_is)
    have h_a11 : NT.Here (L2.KOf KX) mg "answer_first" NT.p2 NT.sAFirst := by
      dsimp only [L2.KOf]
      refine' NT.here_mk KX G (fun _ _ _ _ _ _ us hl => match us, hl with | [_, _], _ => rfl) ?a ?l ?c ?k
      (case a => k_is); (case l => k_is); (case c => k_is); (case k => k_is)
    have h_a12 : NT.Here (L2.KOf KX) mg "answer_more" NT.p2 NT.sAMore := by
      dsimp only [L2.KOf]
      refine' NT.here_mk KX G (fun _ _ _ _ _ _ us hl => match us, hl with | [_, _], _ => rfl) ?a ?l ?c ?k
      (case a => k_is); (case l => k_is); (case c => k_is); (case k => k_is)
    have h_a13 : NT.Here (L2.KOf KX) mg "answer_least" NT.p2 NT.sALeast := by
      dsimp only [L2.KOf]
      refine' NT.here_mk KX G (fun _ _ _ _ _ _ us hl => match us, hl with | [_, _], _ => rfl) ?a ?l ?c ?k
      (case a => k_is); (case l => k_is); (case c => k_is); (case k => k_is)
    have h_a14 : NT.Here (L2.KOf KX) mg "answer_all" NT.p2 NT.sAAll := by
      dsimp only [L2.KOf]
      refine' NT.here_mk KX G (fun _ _ _ _ _ _ us hl => match us, hl with | [_, _], _ => rfl) ?a ?l ?c ?k
      (case a => k_is); (case l => k_is); (case c => k_is); (case k => k_is)
    have h_a15 : NT.Here (L2.KOf KX) mg "answer_near" NT.p2 NT.sANear := by
      dsimp only [L2.KOf]
      refine' NT.here_mk KX G (fun _ _ _ _ _ _ us hl => match us, hl with | [_, _], _ => rfl) ?a ?l ?c ?k
      (case a => k_is); (case l => k_is); (case c => k_is); (case k => k_is)
    have h_a16 : NT.Here (L2.KOf KX) mg "answer_ends" NT.p2 NT.sAEnds := by
      dsimp only [L2.KOf]
      refine' NT.here_mk KX G (fun _ _ _ _ _ _ us hl => match us, hl with | [_, _], _ => rfl) ?a ?l ?c ?k
      (case a => k_is); (case l => k_is); (case c => k_is); (case k => k_is)
    have h_a17 : NT.Here (L2.KOf KX) mg "answer_state" NT.p2 NT.sAState := by
      dsimp only [L2.KOf]
      refine' NT.here_mk KX G (fun _ _ _ _ _ _ us hl => match us, hl with | [_, _], _ => rfl) ?a ?l ?c ?k
      (case a => k_is); (case l => k_is); (case c => k_is); (case k => k_is)
    have h_cl : NT.Here (L2.KOf KX) mg "call_length" ["calls", "start"] NT.sCL := by
      dsimp only [L2.KOf]
      refine' NT.here_mk KX G (fun _ _ _ _ _ _ us hl => match us, hl with | [_, _], _ => rfl) ?a ?l ?c ?k
      (case a => k_is); (case l => k_is); (case c => k_is); (case k => k_is)
    have h_anw : NT.Here (L2.KOf KX) mg "answer" ["joined", "call", "numbers"] NT.sAnw := by
      dsimp only [L2.KOf]
      refine' NT.here_mk KX G (fun _ _ _ _ _ _ us hl => match us, hl with | [_, _, _], _ => rfl) ?a ?l ?c ?k
      (case a => k_is); (case l => k_is); (case c => k_is); (case k => k_is)
    have h_ans : NT.Here (L2.KOf KX) mg "answers" ["calls"] NT.sAns := by
      dsimp only [L2.KOf]
      refine' NT.here_mk KX G (fun _ _ _ _ _ _ us hl => match us, hl with | [_], _ => rfl) ?a ?l ?c ?k
      (case a => k_is); (case l => k_is); (case c => k_is); (case k => k_is)
    have h_bt : NT.Bt mg := by
      refine' NT.bt_mk KX G ?z1 ?z2 ?z3 ?z4 ?z5 ?z6 ?z7 ?z8 ?z9
      (case z1 => k_is)
      (case z2 => k_is)
      (case z3 => k_is)
      (case z4 => k_is)
      (case z5 => k_is)
      (case z6 => k_is)
      (case z7 => k_is)
      (case z8 => k_is)
      (case z9 => k_is)
    have c_nobody : NT.Cst mg "NOBODY" (-1) := by
      refine' NT.cst_mk KX G ?a
      (case a => k_is)
    have c_most : NT.Cst mg "MOST_PEOPLE" (14) := by
      refine' NT.cst_mk KX G ?a
      (case a => k_is)
    have c_noneSuch : NT.Cst mg "NONE_SUCH" (-2) := by
      refine' NT.cst_mk KX G ?a
      (case a => k_is)
    have c_noneElse : NT.Cst mg "NONE_ELSE" (-6) := by
      refine' NT.cst_mk KX G ?a
      (case a => k_is)
    have c_notBegun : NT.Cst mg "NOT_BEGUN" (-11) := by
      refine' NT.cst_mk KX G ?a
      (case a => k_is)
    have c_notJoined : NT.Cst mg "NOT_JOINED" (-22) := by
      refine' NT.cst_mk KX G ?a
      (case a => k_is)
    have c_notOneEach : NT.Cst mg "NOT_ONE_EACH" (-22) := by
      refine' NT.cst_mk KX G ?a
      (case a => k_is)
    have c_tooMany : NT.Cst mg "TOO_MANY" (-28) := by
      refine' NT.cst_mk KX G ?a
      (case a => k_is)
    have c_begin_ : NT.Cst mg "BEGIN" (0) := by
      refine' NT.cst_mk KX G ?a
      (case a => k_is)
    have c_could : NT.Cst mg "COULD" (6) := by
      refine' NT.cst_mk KX G ?a
      (case a => k_is)
    have t_numbers : NT.CstT (L2.KOf KX) mg "NUMBERS" (NM.NUM.map L2.V.int) := by
      dsimp only [L2.KOf]
      refine' NT.cstT_mk KX G ?a ?l ?z ?v
      (case a => k_is); (case l => k_is); (case z => decide); (case v => rfl)
    have t_people : NT.CstT (L2.KOf KX) mg "PEOPLE" (NT.PEO.map L2.V.int) := by
      dsimp only [L2.KOf]
      refine' NT.cstT_mk KX G ?a ?l ?z ?v
      (case a => k_is); (case l => k_is); (case z => decide); (case v => rfl)
    have t_tup : ∃ fs : List Addr, NT.CstT (L2.KOf KX) mg "ANSWERERS" (fs.map L2.V.ref) ∧ NT.NAM.map mg = fs.map fun f => some (Value.ref f) := by
      dsimp only [L2.KOf]
      refine' NT.tup_mk KX G ?a ?l ?h0 ?h1 ?h2 ?h3 ?h4 ?h5 ?h6 ?h7 ?h8 ?h9 ?h10 ?h11 ?h12 ?h13 ?h14 ?h15 ?h16 ?h17
      (case a => k_is); (case l => k_is)
      (case h0 => k_is)
      (case h1 => k_is)
      (case h2 => k_is)
      (case h3 => k_is)
      (case h4 => k_is)
      (case h5 => k_is)
      (case h6 => k_is)
      (case h7 => k_is)
      (case h8 => k_is)
      (case h9 => k_is)
      (case h10 => k_is)
      (case h11 => k_is)
      (case h12 => k_is)
      (case h13 => k_is)
      (case h14 => k_is)
      (case h15 => k_is)
      (case h16 => k_is)
      (case h17 => k_is)
    have T : NT.AllTxt (L2.KOf KX) mg := ⟨⟨h_bt, h_jn, h_side, h_size, h_rank, h_need, h_co, h_tell, h_ph, h_pc, h_cb⟩, h_ends, h_way, h_he, h_cnt, h_a0, h_a1, h_a2, h_a3, h_a4, h_a5, h_a6, h_a7, h_a8, h_a9, h_a10, h_a11, h_a12, h_a13, h_a14, h_a15, h_a16, h_a17, h_cl, h_anw, h_ans, ⟨c_nobody, c_most, c_noneSuch, c_noneElse, c_notBegun, c_notJoined, c_notOneEach, c_tooMany, c_begin_⟩, ⟨c_could, t_numbers⟩, t_people, t_tup⟩
    obtain ⟨fd, h1, h2⟩ := NT.last_of T hmg
    exact ⟨fd, h1, fun base _ _ => h2 _ w base⟩
  case S =>
    intro K H xs a hO hwi hask hx
    cases hx with
    | cons h1 h2 =>
      cases h2
      cases h1 with
      | lst hs ha =>
        have e := L2.ints_dw a.1 _ ha
        subst e
        have q : ((Codec.inLen 0 7700 a.1 && a.1.all (Codec.inInt 0 4294967295)) && true) = true := hwi
        rw [Bool.and_eq_true, Bool.and_eq_true] at q
        refine ⟨_, a.1, rfl, hs, (Codec.inNat_iff.mp q.1.1).2, (fun z hz => ?_), hask, fun H' p hp => .lst (L2.SqL.of hp) (L2.dw_ints _)⟩
        have hz := List.all_eq_true.mp q.1.2 z hz
        exact (Codec.inInt_iff.mp hz).1
end
