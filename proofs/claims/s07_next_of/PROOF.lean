import PyProof.Rows.All
import Wide.All
import OpenK.AllK
import Wide.FinOn
import PyProof.EqAt
import PyProof.EqKinds
import PyProof.TupleCall
import KE.BitLaws
import Open.SpecLaws
import KE.OsHead
import KE.OsGo
import OpenK.KOwn
import PyWqbabt
import PySem.Challenge.RW_crossfilldesk_s07_next_of
section
set_option Elab.async false
set_option linter.all false
set_option maxRecDepth 100000
/-! THE HAND LAYER, for ints, bools, texts, own classes, lists, tuples, dicts, comprehensions, walks over dicts, enumerate, zip, reversed, texts, calls, loops. Paste it whole ahead of your own text; what your proof does not reach may be deleted. -/
namespace L2
open PySem PySem.Spec PyProof.Rows
/-- a key: an int or a str -/
abbrev Key := Sum Int Str
def keyIs : Key → Value → Bool
  | .inl k, v => Value.isInt k v
  | .inr x, v => Value.isStrOf x v
def keyH (w : World) : Key → Int
  | .inl k => hashInt k
  | .inr x => hashStr w x
theorem keyIs_shape : ∀ {k : Key} {v : Value}, keyIs k v = true → (∃ i t, k = Sum.inl i ∧ v = Value.int i t) ∨ (∃ x t, k = Sum.inr x ∧ v = Value.str x t)
  | .inl i, v, h => by
    obtain ⟨t, e⟩ := Value.isInt_shape (k := i) (v := v) h
    exact .inl ⟨i, t, rfl, e⟩
  | .inr x, v, h => by
    obtain ⟨t, e⟩ := Value.isStrOf_shape (x := x) (v := v) h
    exact .inr ⟨x, t, rfl, e⟩
theorem key_ll (a b : Int) : decide ((Sum.inl a : Key) = Sum.inl b) = (a == b) := by
  by_cases e : a = b
  · subst e; simp
  · have h : ¬ (Sum.inl a : Key) = Sum.inl b := fun q => e (Sum.inl.inj q)
    rw [decide_eq_false h]
    exact (beq_eq_false_iff_ne.mpr e).symm
theorem key_rr (a b : Str) : decide ((Sum.inr a : Key) = Sum.inr b) = decide (a = b) := by
  by_cases e : a = b
  · subst e; simp
  · have h : ¬ (Sum.inr a : Key) = Sum.inr b := fun q => e (Sum.inr.inj q)
    rw [decide_eq_false h, decide_eq_false e]
theorem key_lr (a : Int) (b : Str) : decide ((Sum.inl a : Key) = Sum.inr b) = false := decide_eq_false (fun q => nomatch q)
theorem key_rl (a : Str) (b : Int) : decide ((Sum.inr a : Key) = Sum.inl b) = false := decide_eq_false (fun q => nomatch q)
def mixKind (prog : Program) (w : World) : PySem.KeyKind prog w Key where
  is := keyIs
  hash := keyH w
  inj := fun v a b ha hb => by
    rcases keyIs_shape ha with ⟨i, t, rfl, rfl⟩ | ⟨x, t, rfl, rfl⟩
    · rcases keyIs_shape hb with ⟨j, u, rfl, e⟩ | ⟨y, u, rfl, e⟩
      · injection e with e1 _; rw [e1]
      · exact nomatch e
    · rcases keyIs_shape hb with ⟨j, u, rfl, e⟩ | ⟨y, u, rfl, e⟩
      · exact nomatch e
      · injection e with e1 _; rw [e1]
  byValue := fun k v h => by
    rcases keyIs_shape h with ⟨i, t, rfl, rfl⟩ | ⟨x, t, rfl, rfl⟩ <;> rfl
  pyHash := fun hv h => by
    rcases keyIs_shape hv with ⟨i, t, rfl, rfl⟩ | ⟨x, t, rfl, rfl⟩
    · exact wpAny_pyHash_int h
    · exact wpAny_pyHash_str h
  eqBool := fun hu hv h => by
    rcases keyIs_shape hu with ⟨i, t, rfl, rfl⟩ | ⟨x, t, rfl, rfl⟩
    · rcases keyIs_shape hv with ⟨j, u, rfl, rfl⟩ | ⟨y, u, rfl, rfl⟩
      · rw [key_ll] at h; exact wpAny_eqBool_int h
      · rw [key_lr] at h; exact SeqAt.EqAt.int_str i t y u _ _ _ _ h
    · rcases keyIs_shape hv with ⟨j, u, rfl, rfl⟩ | ⟨y, u, rfl, rfl⟩
      · rw [key_rl] at h; exact SeqAt.EqAt.str_int x t j u _ _ _ _ h
      · rw [key_rr] at h; exact wpAny_eqBool_str h
  «strs» := fun k x t v h => by
    rcases keyIs_shape h with ⟨i, u, rfl, e⟩ | ⟨y, u, rfl, e⟩
    · exact nomatch e
    · injection e with e1 _
      subst e1
      cases v <;> rfl
end L2
namespace L2
open PySem PySem.Spec PyProof.Rows
/-- a value, without the heap -/
inductive V where
  | non | bl (b : Bool) | int (i : Int) | str (x : Str) | byt (b : Array UInt8) | flt (b : UInt64) | ref (a : Addr) | ty (n : String)
  deriving DecidableEq
def RelV : V → Value → Prop
  | .non, u => u = Value.none
  | .bl b, u => u = Value.bool b
  | .int i, u => ∃ t, u = Value.int i t
  | .str x, u => ∃ t, u = Value.str x t
  | .byt b, u => ∃ t, u = Value.bytes b t
  | .flt b, u => ∃ t, u = Value.float b t
  | .ref a, u => u = Value.ref a
  | .ty n, u => u = Value.type n
abbrev Vals : List V → List Value → Prop := Paired RelV
theorem Vals.length {xs : List V} {us : List Value} (r : Vals xs us) : xs.length = us.length := Paired.length r
theorem Vals.get : ∀ {xs : List V} {us : List Value} {i : Nat} {x : V}, Vals xs us → xs[i]? = some x → ∃ u, us[i]? = some u ∧ RelV x u
  | _, _, _, _, .nil, e => by simp at e
  | _, _, 0, _, .cons r _, e => by simp at e; subst e; exact ⟨_, rfl, r⟩
  | _, _, i + 1, x, .cons _ t, e => by
    obtain ⟨u, h1, h2⟩ := Vals.get (i := i) (x := x) t (by simpa using e)
    exact ⟨u, by simpa using h1, h2⟩
theorem Vals.append : ∀ {xs ys : List V} {us ws : List Value}, Vals xs us → Vals ys ws → Vals (xs ++ ys) (us ++ ws)
  | _, _, _, _, .nil, s => s
  | _, _, _, _, .cons r t, s => .cons r (Vals.append t s)
theorem Vals.take : ∀ {xs : List V} {us : List Value} (n : Nat), Vals xs us → Vals (xs.take n) (us.take n)
  | _, _, 0, _ => .nil
  | _, _, _ + 1, .nil => .nil
  | _, _, n + 1, .cons r t => .cons r (Vals.take n t)
theorem Vals.drop : ∀ {xs : List V} {us : List Value} (n : Nat), Vals xs us → Vals (xs.drop n) (us.drop n)
  | _, _, 0, r => r
  | _, _, _ + 1, .nil => .nil
  | _, _, n + 1, .cons _ t => Vals.drop n t
def RelO : Option V → Option Value → Prop
  | some v, some u => RelV v u
  | none, none => True
  | _, _ => False
def KV {κ : Type} : List (κ × V) → List (κ × Value) → Prop := Paired fun (p : κ × V) (q : κ × Value) => p.1 = q.1 ∧ RelV p.2 q.2
/-- a key of a dict (00_mix): an int or a text -/
def kV : Key → V
  | .inl i => .int i
  | .inr x => .str x
/-- what stands at a tracked address -/
inductive HO where
  /-- a list -/
  | lst (xs : List V)
  /-- a tuple (never changes) -/
  | tup (xs : List V)
  /-- a dict whose keys are ints and texts; one whose keys are tuples of ints and texts (the empty one is both) -/
  | dK (kvs : List (Key × V)) | dT (kvs : List (List Key × V))
  /-- a set of ints: its members, its size -/
  | set (S : Int → Bool) (n : Nat)
  /-- an instance of the class at C, its dict at dx, its attributes -/
  | ins (C dx : Addr) (fs : List (Str × V))
  /-- the dict of the instance at x -/
  | own (x : Addr)
  /-- the dict of an exception -/
  | xd (fs : List (Str × V))
  /-- a bound method, f of x -/
  | met (f x : Addr)
  /-- a range object lo, lo + 1, .. below hi -/
  | rng (lo hi : Int)
  /-- a thing that is known to the object (the script; a dict while a loop walks it): read, never written while it is so -/
  | frz (o : Obj) (u : HO)
  /-- a code object's table -/
  | tbl (ps : Array Value)
  /-- any other thing, by what is true of its one object (a def of one's own: SetO a S n := HO.ext fun h => ..) -/
  | ext (φ : Heap → Prop)
abbrev Hp := Addr → Option HO
def upd (H : Hp) (a : Addr) (o : HO) : Hp := fun b => if b = a then some o else H b
theorem upd_same {H : Hp} {a : Addr} {o : HO} : upd H a o a = some o := by unfold upd; rw [if_pos rfl]
theorem upd_ne {H : Hp} {a b : Addr} {o : HO} (h : b ≠ a) : upd H a o b = H b := by unfold upd; rw [if_neg h]
/-- two objects of different content stand apart -/
theorem ne_of {H : Hp} {a b : Addr} {o u : HO} (h : H a = some o) (h' : H b = some u) (d : o ≠ u) : a ≠ b := by
  intro e; subst e; rw [h] at h'; exact d (Option.some.inj h')
theorem ne_of_none {H : Hp} {a b : Addr} {o : HO} (h : H a = some o) (h' : H b = none) : a ≠ b := by
  intro e; subst e; rw [h] at h'; cases h'
section
variable (P : Program) (w : World)
def ObjOk (H : Hp) (h : Heap) (a : Addr) : HO → Prop
  | .lst xs => xs.length ≤ sizeLine ∧ ∃ (its : List Value) (n : Nat), Vals xs its ∧ h.get? a = some { cls := .type "list", data := .seq its.toArray n }
  | .tup xs => xs.length ≤ sizeLine ∧ ∃ its : List Value, Vals xs its ∧ IsTup h a its.toArray
  | .dK kvs => kvs.length ≤ sizeLine ∧ (a == sysModules) = false ∧ ∃ vs, KV kvs vs ∧ h.DictOf (mixKind P w) a vs
  | .dT kvs => kvs.length ≤ sizeLine ∧ (a == sysModules) = false ∧ ∃ xs : List (List Key × Addr × Value),
      Paired (fun (p : List Key × V) (q : List Key × Addr × Value) => p.1 = q.1 ∧ H q.2.1 = some (.tup (p.1.map kV)) ∧ RelV p.2 q.2.2) kvs xs ∧
      ∃ o es ep, h.get? a = some o ∧ o.ExactDict ∧ o.data = .dict es ep ∧ es.toList = xs.map (entryOfKey (tupleKind (mixKind P w))) ∧ (xs.map (·.1)).Nodup
  | .set S n => h.SetOf (intKind P w) a S n
  | .ins C dx fs => H dx = some (.own a) ∧ fs.length ≤ 1000 ∧ dx ≠ a ∧ h.get? a = some (PySem.W.instObj C dx) ∧
      ∃ mA, h.Ns1 dx mA ∧ (∀ f, RelO (fs.lookup f) (mA f)) ∧ PySem.Within mA (fs.map (·.1))
  | .own _ => ∃ o, h.get? a = some o
  | .xd fs => ∃ mA, h.Ns1 a mA ∧ ∀ f, RelO (fs.lookup f) (mA f)
  | .rng lo hi => ∃ t u v, h.get? a = some { cls := .type "range", data := .fields #[.int lo t, .int hi u, .int 1 v] }
  | .frz o u => h.get? a = some o ∧ ObjOk H h a u
  | .tbl ps => h.get? a = some { cls := .none, data := .fields ps }
  | .met f x => h.get? a = some (PySem.W.methodObj (.ref f) (.ref x))
  | .ext φ => φ h ∧ (∃ o, h.get? a = some o) ∧ ∀ h1 h2 : Heap, φ h1 → (∀ o, h1.get? a = some o → h2.get? a = some o) → φ h2
/-- the abstract heap is held -/
def HOk (H : Hp) (h : Heap) : Prop := ∀ a o, H a = some o → ObjOk P w H h a o
end
section
variable {P : Program} {w : World} {H H' : Hp} {h h' : Heap} {a : Addr} {o : HO}
theorem ObjOk.lt (x : ObjOk P w H h a o) : a < h.objs.size := by
  cases o with
  | lst xs => obtain ⟨_, _, _, _, e⟩ := x; exact Heap.lt_size e
  | tup xs => obtain ⟨_, _, _, p⟩ := x; exact p.lt
  | dK kvs => obtain ⟨_, _, _, _, o, _, _, e, _⟩ := x; exact Heap.lt_size e
  | dT kvs => obtain ⟨_, _, _, _, o, _, _, e, _⟩ := x; exact Heap.lt_size e
  | set S n => obtain ⟨o, _, _, _, e, _⟩ := x; exact Heap.lt_size e
  | ins C dx fs => obtain ⟨_, _, _, e, _⟩ := x; exact Heap.lt_size e
  | own y => obtain ⟨_, e⟩ := x; exact Heap.lt_size e
  | xd fs => obtain ⟨_, ⟨_, _, _, e, _⟩, _⟩ := x; exact Heap.lt_size e
  | rng lo hi => obtain ⟨_, _, _, e⟩ := x; exact Heap.lt_size e
  | frz ob u => obtain ⟨e, _⟩ := x; exact Heap.lt_size e
  | tbl ps => exact Heap.lt_size (show h.get? a = some _ from x)
  | met f y => exact Heap.lt_size (show h.get? a = some _ from x)
  | ext φ => obtain ⟨_, ⟨_, e⟩, _⟩ := x; exact Heap.lt_size e
theorem Paired.mapP {α β : Type} {F G : α → β → Prop} : ∀ {l₁ : List α} {l₂ : List β}, Paired F l₁ l₂ → (∀ a b, F a b → G a b) → Paired G l₁ l₂
  | _, _, .nil, _ => .nil
  | _, _, .cons r t, f => .cons (f _ _ r) (Paired.mapP t f)
/-- what an object's description leans on: its own object, its own dict, the tuples -/
theorem ObjOk.stay (x : ObjOk P w H h a o) (k : ∀ b u, (b = a ∨ H b = some (.own a)) → h.get? b = some u → h'.get? b = some u)
    (ho : ∀ b, H b = some (.own a) → H' b = some (.own a)) (ht : ∀ b xs, H b = some (.tup xs) → H' b = some (.tup xs)) : ObjOk P w H' h' a o := by
  induction o with
  | lst xs => obtain ⟨z, its, n, r, e⟩ := x; exact ⟨z, its, n, r, k _ _ (.inl rfl) e⟩
  | tup xs => obtain ⟨z, its, r, ob, e, c⟩ := x; exact ⟨z, its, r, ob, k _ _ (.inl rfl) e, c⟩
  | dK kvs => obtain ⟨z, y, vs, r, ob, es, ep, e, c⟩ := x; exact ⟨z, y, vs, r, ob, es, ep, k _ _ (.inl rfl) e, c⟩
  | dT kvs =>
    obtain ⟨z, y, xs, r, ob, es, ep, e, c⟩ := x
    exact ⟨z, y, xs, Paired.mapP r fun p q z => ⟨z.1, ht _ _ z.2.1, z.2.2⟩, ob, es, ep, k _ _ (.inl rfl) e, c⟩
  | set S n => obtain ⟨ob, es, ep, t, e, c⟩ := x; exact ⟨ob, es, ep, t, k _ _ (.inl rfl) e, c⟩
  | ins C dx fs =>
    obtain ⟨d, z, ne, e, mA, ⟨od, es, ep, e2, c⟩, r⟩ := x
    exact ⟨ho _ d, z, ne, k _ _ (.inl rfl) e, mA, ⟨od, es, ep, k _ _ (.inr d) e2, c⟩, r⟩
  | own y => obtain ⟨ob, e⟩ := x; exact ⟨ob, k _ _ (.inl rfl) e⟩
  | xd fs => obtain ⟨mA, ⟨od, es, ep, e, c⟩, r⟩ := x; exact ⟨mA, ⟨od, es, ep, k _ _ (.inl rfl) e, c⟩, r⟩
  | rng lo hi => obtain ⟨t, u, v, e⟩ := x; exact ⟨t, u, v, k _ _ (.inl rfl) e⟩
  | frz ob u ih => obtain ⟨e, q⟩ := x; exact ⟨k _ _ (.inl rfl) e, ih q⟩
  | tbl ps =>
    have e : h.get? a = some { cls := .none, data := .fields ps } := x
    show h'.get? a = some { cls := .none, data := .fields ps }
    exact k a _ (.inl rfl) e
  | met f y =>
    have e : h.get? a = some (PySem.W.methodObj (.ref f) (.ref y)) := x
    show h'.get? a = some (PySem.W.methodObj (.ref f) (.ref y))
    exact k a _ (.inl rfl) e
  | ext φ => obtain ⟨p, ⟨o, e⟩, st⟩ := x; exact ⟨st _ _ p fun o q => k _ _ (.inl rfl) q, ⟨o, k _ _ (.inl rfl) e⟩, st⟩
theorem HOk.lt (x : HOk P w H h) (e : H a = some o) : a < h.objs.size := (x a o e).lt
theorem HOk.fresh (x : HOk P w H h) (e : h.objs.size ≤ a) : H a = none := by
  cases q : H a with
  | none => rfl
  | some u => exact absurd (Nat.lt_of_lt_of_le (x.lt q) e) (Nat.lt_irrefl _)
/-- every object of the heap is kept -/
theorem HOk.kept (x : HOk P w H h) (k : ∀ b u, h.get? b = some u → h'.get? b = some u) : HOk P w H h' := fun a o e =>
  (x a o e).stay (fun b u _ q => k b u q) (fun _ q => q) fun _ _ q => q
/-- a new object is laid and tracked -/
theorem HOk.laid (x : HOk P w H h) (k : ∀ b u, h.get? b = some u → h'.get? b = some u) (hp : h.objs.size ≤ a) (new : ObjOk P w (upd H a o) h' a o) : HOk P w (upd H a o) h' := fun b u e => by
  have hn := x.fresh hp
  by_cases hb : b = a
  · subst hb; rw [upd_same] at e; cases e; exact new
  · rw [upd_ne hb] at e
    exact (x b u e).stay (fun c v _ q => k c v q) (fun c q => by rw [upd_ne (ne_of_none q hn)]; exact q) fun c xs q => by rw [upd_ne (ne_of_none q hn)]; exact q
end
/-- what may be read as u: it is u, or a known u -/
def Rd (H : Hp) (a : Addr) (u : HO) : Prop := H a = some u ∨ ∃ o, H a = some (.frz o u)
theorem Rd.ok {P : Program} {w : World} {H : Hp} {h : Heap} {a : Addr} {u : HO} (r : Rd H a u) (x : HOk P w H h) : ObjOk P w H h a u := by
  rcases r with r | ⟨o, r⟩
  · exact x a u r
  · obtain ⟨_, q⟩ := x a _ r
    exact q
/-- what may be written -/
def Mut : Option HO → Prop
  | some (.lst _) => True
  | some (.dK _) => True
  | some (.dT _) => True
  | some (.set _ _) => True
  | some (.ins _ _ _) => True
  | some (.ext _) => True
  | _ => False
section
variable {P : Program} {w : World} {H : Hp} {h h' : Heap} {x e : Addr} {o' : HO}
/-- the object at e is changed: x itself, or the dict of the instance x -/
theorem HOk.write (ok : HOk P w H h) (mu : Mut (H x)) (he : e = x ∨ H e = some (.own x)) (k : ∀ b u, b ≠ e → h.get? b = some u → h'.get? b = some u) (heo : ∃ u, h'.get? e = some u)
    (new : ObjOk P w (upd H x o') h' x o') : HOk P w (upd H x o') h' := fun b u q => by
  have nown : ∀ c y, H c = some (.own y) → c ≠ x := fun c y r z => by subst z; rw [r] at mu; exact mu
  have ntup : ∀ c xs, H c = some (.tup xs) → c ≠ x := fun c xs r z => by subst z; rw [r] at mu; exact mu
  by_cases hb : b = x
  · subst hb; rw [upd_same] at q; cases q; exact new
  · rw [upd_ne hb] at q
    by_cases hbe : b = e
    · have q' : H b = some (.own x) := by
        rcases he with z | z
        · exact absurd (hbe.trans z) hb
        · rw [hbe]; exact z
      rw [q] at q'; cases q'
      obtain ⟨v, hv⟩ := heo
      exact ⟨v, by rw [hbe]; exact hv⟩
    · refine (ok b u q).stay (fun c v hc r => k c v ?_ r) (fun c r => by rw [upd_ne (nown c b r)]; exact r) fun c xs r => by rw [upd_ne (ntup c xs r)]; exact r
      rcases hc with rfl | hc
      · exact hbe
      · rintro rfl
        rcases he with z | z
        · exact nown c b hc z
        · rw [hc] at z; cases z; exact hb rfl
end
/-! ### kept unless tracked; of the frames at fs (the callers') the slots may change (an exception that passes writes there); of the records at ex (iterators) nothing is said -/
structure Un (fs ex : List Addr) (H H' : Hp) (h h' : Heap) : Prop where
  keep : ∀ b o, h.get? b = some o → H b = none → b ∉ fs → b ∉ ex → h'.get? b = some o
  slot : ∀ b o, h.get? b = some o → H b = none → b ∈ fs → b ∉ ex → ∃ sl, h'.get? b = some { o with slots := sl }
  free : ∀ b o, h.get? b = some o → H b = none → b ∉ ex → H' b = none
  there : ∀ b o, h.get? b = some o → b ∉ ex → ∃ o', h'.get? b = some o'
  tups : ∀ b xs, H b = some (.tup xs) → H' b = some (.tup xs)
  frzs : ∀ b o u, H b = some (.frz o u) → H' b = some (.frz o u)
  tbls : ∀ b ps, H b = some (.tbl ps) → ∃ more, H' b = some (.tbl (ps ++ more))
section
variable {fs fs' ex ex' : List Addr} {H H1 H2 : Hp} {h h1 h2 h' : Heap} {a x e : Addr} {o : HO}
theorem Un.any (u : Un fs ex H H1 h h1) {b : Addr} {ob : Obj} (q : h.get? b = some ob) (n : H b = none) (hx : b ∉ ex) : ∃ sl, h1.get? b = some { ob with slots := sl } := by
  by_cases hb : b ∈ fs
  · exact u.slot b ob q n hb hx
  · exact ⟨ob.slots, u.keep b ob q n hb hx⟩
theorem Un.kept (k : ∀ b u, h.get? b = some u → h'.get? b = some u) : Un fs ex H H h h' :=
  ⟨fun b ob q _ _ _ => k b ob q, fun b ob q _ _ _ => ⟨ob.slots, k b ob q⟩, fun _ _ _ n _ => n, fun b ob q _ => ⟨ob, k b ob q⟩, fun _ _ q => q, fun _ _ _ q => q, fun _ ps q => ⟨#[], by rw [q]; simp⟩⟩
theorem Un.refl : Un fs ex H H h h := Un.kept fun _ _ q => q
theorem Un.laid (k : ∀ b u, h.get? b = some u → h'.get? b = some u) (hp : h.objs.size ≤ a) (hn : H a = none) : Un fs ex H (upd H a o) h h' where
  keep := fun b u q _ _ _ => k b u q
  slot := fun b u q _ _ _ => ⟨u.slots, k b u q⟩
  free := fun b u q n _ => by rw [upd_ne (Nat.ne_of_lt (Nat.lt_of_lt_of_le (Heap.lt_size q) hp))]; exact n
  there := fun b u q _ => ⟨u, k b u q⟩
  tups := fun b xs q => by rw [upd_ne (ne_of_none q hn)]; exact q
  frzs := fun b u xs q => by rw [upd_ne (ne_of_none q hn)]; exact q
  tbls := fun b ps q => ⟨#[], by rw [upd_ne (ne_of_none q hn), q]; simp⟩
theorem Un.write (mu : Mut (H x)) (he : e = x ∨ H e = some (.own x)) (k : ∀ b u, b ≠ e → h.get? b = some u → h'.get? b = some u) (heo : ∃ u, h'.get? e = some u) : Un fs ex H (upd H x o) h h' := by
  have hx : ∀ b, H b = none → b ≠ x := fun b n z => by subst z; rw [n] at mu; exact mu
  have hb : ∀ b, H b = none → b ≠ e := fun b n z => by
    subst z
    rcases he with r | r
    · exact hx b n r
    · rw [n] at r; cases r
  have hm : ∀ b u, H b = some u → ¬ Mut (some u) → b ≠ x := fun b u q nm z => by subst z; rw [q] at mu; exact nm mu
  refine ⟨fun b u q n _ _ => k b u (hb b n) q, fun b u q n _ _ => ⟨u.slots, k b u (hb b n) q⟩, fun b u q n _ => by rw [upd_ne (hx b n)]; exact n, fun b u q _ => ?_,
    fun b xs q => by rw [upd_ne (hm b _ q fun z => z)]; exact q, fun b u xs q => by rw [upd_ne (hm b _ q fun z => z)]; exact q, fun b ps q => ⟨#[], by rw [upd_ne (hm b _ q fun z => z), q]; simp⟩⟩
  by_cases hbe : b = e
  · subst hbe; exact heo
  · exact ⟨u, k b u hbe q⟩
end
/-! ### the heap without what is tracked -/
def trk (h : Heap) (H : Hp) : List Addr := (List.range h.objs.size).filter fun a => (H a).isSome
def hidT (h : Heap) (H : Hp) : Heap := PySem.W.hideAll h (trk h H)
theorem hidT_size (h : Heap) (H : Hp) : (hidT h H).objs.size = h.objs.size := PySem.W.hideAll_size _ _
theorem hidT_get {h : Heap} {H : Hp} {b : Addr} {o : Obj} (e : h.get? b = some o) (n : H b = none) : (hidT h H).get? b = some o :=
  PySem.W.hideAll_get _ e fun hm => by
    have q : (H b).isSome = true := (List.mem_filter.mp hm).2
    rw [n] at q; simp at q
theorem of_hidT {h : Heap} {H : Hp} {b : Addr} {o : Obj} (e : (hidT h H).get? b = some o) : h.get? b = some o ∧ H b = none := by
  have e' : h.get? b = some o := PySem.W.of_hideAll (trk h H) e
  refine ⟨e', ?_⟩
  cases q : H b with
  | none => rfl
  | some x =>
    have hm : b ∈ trk h H := List.mem_filter.mpr ⟨List.mem_range.mpr (Heap.lt_size e'), by simp [q]⟩
    have z : (hidT h H).get? b = none := PySem.W.hideAll_none (trk h H) hm
    rw [z] at e; cases e
/-! ### OpenK's ledger, filled with every new object but one -/
def allNews (g h : Heap) (L : Addr) : List (Addr × Obj) := (List.range h.objs.size).filterMap fun a => if a = L ∨ (g.get? a).isSome = true then none else (h.get? a).map fun o => (a, o)
def rest (g h : Heap) (L d : Addr) : List (Addr × Obj) := (allNews g h L).filter fun p => decide (p.1 ≠ d)
end L2
namespace L2
open PySem PySem.Spec PyProof.Rows
/-- the module's facts, over the base: the heap at the law's entry without what is tracked there -/
structure Mod (K : PySem.W.Frag) (mg : Str → Option Value) (base : Heap) : Prop where
  kin : K.In base
  glob : base.Ns mainGlobals mg
  blt : ∃ mb, base.Ns builtinsNs mb ∧ ∀ x : Str, x ≠ "__name__" → mb x = bootBuiltins x
  nolimit : base.NoLimit
/-- the context: a def's body (or a comprehension's block) running. base: fixed through the whole law; s₀, H₀: the entry; outer: the frames whose slots others may change (a def's callers); stack: all frames that run;
   ex: iterators that were made ahead of the entry and are walked here (a comprehension's); fn: the names whose cells were made at the entry (a def: all; a comprehension's block: its own); calm: not within an except suite; pn: pins that every state bears; xe: what is wanted of an exception that leaves the code -/
structure Cx where
  prog : Program
  w : World
  K : PySem.W.Frag
  mg : Str → Option Value
  base : Heap
  A : Around
  N : List Str
  s_0 : Shared
  H_0 : Hp
  env : Env
  outer : List Env
  stack : List Env
  ex : List Addr
  fn : Str → Bool
  calm : Bool
  pn : List (Addr × Obj)
  xe : Value → Shared → Prop
/-- the callers' frames -/
def frs (l : List Env) : List Addr := l.filterMap (·.frame)
abbrev Cx.fs (X : Cx) : List Addr := frs X.outer
def Vis (sc : Scope) (x : Str) : Prop := sc.names.lookup x = some .local ∨ sc.names.lookup x = some .cell ∨ sc.names.lookup x = some .free
def Loc (sc : Scope) (x : Str) : Prop := sc.names.lookup x = some .local ∨ sc.names.lookup x = some .cell
def Look (env : Env) (h : Heap) (m : Str → Option Value) (x : Str) (u : Value) : Prop :=
  (env.kindOf x = some .local ∧ m x = some u) ∨ ((env.kindOf x = some .cell ∨ env.kindOf x = some .free) ∧ ∃ c, env.cells.lookup x = some c ∧ h.IsCell c (some u))
structure Cx.Ok (X : Cx) : Prop where
  mod : Mod X.K X.mg X.base
  kind : X.env.scope.kind = .function
  glob : X.env.globals = mainGlobals
  blt : X.env.builtins = builtinsNs
  above : X.s_0.heap.objs.size ≤ X.env.locals
  inj : ∀ x y c, X.env.cells.lookup x = some c → X.env.cells.lookup y = some c → x = y
  has : ∀ x, (X.env.kindOf x = some .cell ∨ X.env.kindOf x = some .free) → ∃ c, X.env.cells.lookup x = some c
  cab : ∀ x c, X.fn x = true → X.env.cells.lookup x = some c → X.s_0.heap.objs.size ≤ c
  hd : X.calm = true → X.A.handled = none
  frames : X.A.frames = some X.stack
  stk : X.stack = X.outer ∨ (X.stack = X.env :: X.outer ∧ X.env.frame = some X.env.locals)
  exf : ∀ b ∈ X.ex, b ≠ X.env.locals ∧ ∀ x c, X.env.cells.lookup x = some c → c ≠ b
  bs : ∀ b o, X.base.get? b = some o → X.s_0.heap.get? b = some o ∧ X.H_0 b = none
  bsz : X.base.objs.size ≤ X.s_0.heap.objs.size
  noex : ∀ b o, X.base.get? b = some o → b ∉ X.ex
  exfs : ∀ b ∈ X.ex, b ∉ X.fs
  funs : X.s_0.heap.FunFrames X.base X.outer
  frf : ∀ b ∈ X.fs, X.H_0 b = none
structure Inv (X : Cx) (pins : List (Addr × Obj)) (σ : List (Option V)) (H : Hp) (s : Shared) : Prop where
  ok : X.Ok
  os : s.os = X.s_0.os
  bare : AllBare s.gens
  base : Un X.fs X.ex X.H_0 H X.s_0.heap s.heap
  loc : ∃ m, s.heap.Ns X.env.locals m ∧ ∀ (i : Nat) (x : Str) (v : V), X.N[i]? = some x → σ[i]? = some (some v) → Vis X.env.scope x → ∃ u, RelV v u ∧ Look X.env s.heap m x u
  cell : ∀ x c, X.env.cells.lookup x = some c → ∃ v, s.heap.IsCell c v
  free : H X.env.locals = none
  freeC : ∀ x c, X.env.cells.lookup x = some c → H c = none
  pin : ∀ p ∈ X.pn ++ pins, s.heap.get? p.1 = some p.2 ∧ H p.1 = none ∧ p.1 ≠ X.env.locals ∧ p.1 ∉ X.fs ∧ ∀ v, p.2.data ≠ .cell v
  hok : HOk X.prog X.w H s.heap
  len : σ.length = X.N.length
section
variable {X : Cx} {pins : List (Addr × Obj)} {σ : List (Option V)} {H H' : Hp} {s : Shared} {h' : Heap}
theorem Cx.Ok.nofr (ok : X.Ok) {b : Addr} {o : Obj} (e : X.base.get? b = some o) : b ∉ X.fs := fun hb => by
  have := (ok.funs.mem hb).1
  rw [e] at this; cases this
theorem Inv.bs (I : Inv X pins σ H s) : ∀ b o, X.base.get? b = some o → s.heap.get? b = some o ∧ H b = none := fun b o e =>
  ⟨I.base.keep b o (I.ok.bs b o e).1 (I.ok.bs b o e).2 (I.ok.nofr e) (I.ok.noex b o e), I.base.free b o (I.ok.bs b o e).1 (I.ok.bs b o e).2 (I.ok.noex b o e)⟩
theorem Inv.bk (I : Inv X pins σ H s) : ∀ b o, X.base.get? b = some o → s.heap.get? b = some o := fun b o e => (I.bs b o e).1
theorem Inv.mod (I : Inv X pins σ H s) : Mod X.K X.mg X.base := I.ok.mod
theorem Inv.kIn (I : Inv X pins σ H s) : X.K.In s.heap := I.ok.mod.kin.keeps I.bk
/-- the frame over the base: for OpenK's rules (K.In X.base is I.mod.kin) -/
theorem Inv.fr (I : Inv X pins σ H s) : ∃ m, Fr X.base X.env.locals s.heap m :=
  let ⟨m, hn, _⟩ := I.loc
  ⟨m, hn, I.bk, Nat.le_trans I.ok.bsz I.ok.above⟩
theorem Inv.lt (I : Inv X pins σ H s) : X.env.locals < s.heap.objs.size := let ⟨_, hn, _⟩ := I.loc; hn.lt
theorem Inv.sz (I : Inv X pins σ H s) : X.s_0.heap.objs.size ≤ s.heap.objs.size := Nat.le_trans I.ok.above (Nat.le_of_lt I.lt)
theorem Inv.nofs (I : Inv X pins σ H s) {a : Addr} (h : s.heap.objs.size ≤ a) : a ∉ X.fs := fun hb => by
  obtain ⟨_, o, ho, _⟩ := I.ok.funs.mem hb
  exact absurd (Nat.lt_of_lt_of_le (Heap.lt_size ho) (Nat.le_trans I.sz h)) (Nat.lt_irrefl _)
theorem Inv.cne (I : Inv X pins σ H s) : ∀ x c, X.env.cells.lookup x = some c → c ≠ X.env.locals := fun x c e z => by
  obtain ⟨v, o, ho, hd⟩ := I.cell x c e
  obtain ⟨m, ⟨o', es, ep, ho', hd', _⟩, _⟩ := I.loc
  rw [z, ho'] at ho; cases ho; rw [hd'] at hd; cases hd
theorem Inv.funs (I : Inv X pins σ H s) : s.heap.FunFrames X.base X.outer := by
  have all : ∀ (l : List Env), (∀ b ∈ frs l, b ∈ X.fs) → X.s_0.heap.FunFrames X.base l → s.heap.FunFrames X.base l := by
    intro l
    induction l with
    | nil => intro _ _; trivial
    | cons env r ih =>
      intro hs hl
      obtain ⟨hk, ⟨L, o, hf, hn, ho, hd⟩, hr⟩ := hl
      have hL : L ∈ X.fs := hs L (by unfold frs; rw [List.filterMap_cons, hf]; exact List.mem_cons_self)
      obtain ⟨sl, e⟩ := I.base.slot L o ho (I.ok.frf L hL) hL fun z => I.ok.exfs L z hL
      exact ⟨hk, ⟨L, _, hf, hn, e, hd⟩, ih (fun b hb => hs b (by unfold frs; rw [List.filterMap_cons, hf]; exact List.mem_cons_of_mem _ hb)) hr⟩
  exact all X.outer (fun _ hb => hb) I.ok.funs
/-- the frames that run, for a call -/
theorem Inv.stack (I : Inv X pins σ H s) : s.heap.FunFrames X.base X.stack := by
  rcases I.ok.stk with e | ⟨e, hf⟩
  · rw [e]; exact I.funs
  · rw [e]
    obtain ⟨m, hn, _⟩ := I.loc
    refine .cons (by rw [I.ok.kind]; decide) hf hn ?_ I.funs
    exact Heap.get?_none_of_le (Nat.le_trans I.ok.bsz I.ok.above)
theorem Inv.stkSub (I : Inv X pins σ H s) : ∀ b ∈ frs X.stack, b ∈ X.env.locals :: X.fs := fun b hb => by
  rcases I.ok.stk with e | ⟨e, hf⟩
  · rw [e] at hb; exact List.mem_cons_of_mem _ hb
  · rw [e] at hb
    unfold frs at hb
    rw [List.filterMap_cons, hf] at hb
    exact hb
theorem Inv.stkFree (I : Inv X pins σ H s) : ∀ b ∈ frs X.stack, H b = none := fun b hb => by
  rcases List.mem_cons.mp (I.stkSub b hb) with e | hb
  · rw [e]; exact I.free
  · obtain ⟨_, o, ho, _⟩ := I.ok.funs.mem hb
    exact I.base.free b o ho (I.ok.frf b hb) fun z => I.ok.exfs b z hb
/-- THE STEP: the untracked objects but the frame and the records at ch are kept (the callers' frames up to slots), the frame's map is kept, the new abstract heap is held -/
theorem Inv.step {g' : Array GenState} {t' : Nat} {d' : Drawn} {ch : List Addr} (I : Inv X pins σ H s)
    (hch : ∀ b ∈ ch, (b ∈ X.ex ∨ X.s_0.heap.objs.size ≤ b) ∧ b ≠ X.env.locals ∧ (∀ x c, X.env.cells.lookup x = some c → c ≠ b) ∧ ∀ p ∈ X.pn ++ pins, p.1 ≠ b)
    (keep : ∀ b o, b ≠ X.env.locals → b ∉ X.fs → b ∉ ch → s.heap.get? b = some o → H b = none → h'.get? b = some o)
    (slot : ∀ b o, b ≠ X.env.locals → b ∈ X.fs → b ∉ ch → s.heap.get? b = some o → H b = none → ∃ sl, h'.get? b = some { o with slots := sl }) (free : ∀ b o, b ∉ ch → s.heap.get? b = some o → H b = none → H' b = none)
    (there : ∀ b o, b ∉ ch → s.heap.get? b = some o → ∃ o', h'.get? b = some o')
    (tups : ∀ b xs, H b = some (.tup xs) → H' b = some (.tup xs)) (frzs : ∀ b o u, H b = some (.frz o u) → H' b = some (.frz o u)) (tbls : ∀ b ps, H b = some (.tbl ps) → ∃ more, H' b = some (.tbl (ps ++ more)))
    (ns : ∀ m, s.heap.Ns X.env.locals m → h'.Ns X.env.locals m) (hok : HOk X.prog X.w H' h') (hg : AllBare g') :
    Inv X pins σ H' { s with heap := h', gens := g', drawn := d', toks := t' } := by
  have neL : ∀ b o, X.s_0.heap.get? b = some o → b ≠ X.env.locals := fun b o e => Nat.ne_of_lt (Nat.lt_of_lt_of_le (Heap.lt_size e) I.ok.above)
  have neC : ∀ b o, X.s_0.heap.get? b = some o → b ∉ X.ex → b ∉ ch := fun b o e hx hb => by
    rcases (hch b hb).1 with z | z
    · exact hx z
    · exact absurd (Nat.lt_of_lt_of_le (Heap.lt_size e) z) (Nat.lt_irrefl _)
  have cellK : ∀ x c, X.env.cells.lookup x = some c → ∀ v, s.heap.IsCell c v → h'.IsCell c v := fun x c e v ⟨o, ho, hd⟩ => by
    have nch : c ∉ ch := fun z => (hch c z).2.2.1 x c e rfl
    by_cases hc : c ∈ X.fs
    · obtain ⟨sl, q⟩ := slot c o (I.cne x c e) hc nch ho (I.freeC x c e)
      exact ⟨_, q, hd⟩
    · exact ⟨o, keep c o (I.cne x c e) hc nch ho (I.freeC x c e), hd⟩
  refine ⟨I.ok, I.os, hg, ⟨fun b o e n hb hx => ?_, fun b o e n hb hx => ?_, fun b o e n hx => ?_, fun b o e hx => ?_, fun b xs e => tups b xs (I.base.tups b xs e), fun b o xs e => frzs b o xs (I.base.frzs b o xs e), fun b ps e => ?_⟩, ?_, fun x c e => ?_, ?_, fun x c e => ?_, fun p hp => ?_, hok, I.len⟩
  · exact keep b o (neL b o e) hb (neC b o e hx) (I.base.keep b o e n hb hx) (I.base.free b o e n hx)
  · obtain ⟨sl, e1⟩ := I.base.slot b o e n hb hx
    obtain ⟨sl', e2⟩ := slot b _ (neL b o e) hb (neC b o e hx) e1 (I.base.free b o e n hx)
    exact ⟨sl', e2⟩
  · obtain ⟨o', e1⟩ := I.base.there b o e hx
    exact free b o' (neC b o e hx) e1 (I.base.free b o e n hx)
  · obtain ⟨o', e1⟩ := I.base.there b o e hx
    exact there b o' (neC b o e hx) e1
  · obtain ⟨m1, e1⟩ := I.base.tbls b ps e
    obtain ⟨m2, e2⟩ := tbls b _ e1
    exact ⟨m1 ++ m2, by rw [e2, Array.append_assoc]⟩
  · obtain ⟨m, hn, hl⟩ := I.loc
    refine ⟨m, ns m hn, fun i x v e1 e2 e3 => ?_⟩
    obtain ⟨u, r, l⟩ := hl i x v e1 e2 e3
    refine ⟨u, r, ?_⟩
    rcases l with l | ⟨k, c, e, z⟩
    · exact .inl l
    · exact .inr ⟨k, c, e, cellK x c e _ z⟩
  · obtain ⟨v, z⟩ := I.cell x c e
    exact ⟨v, cellK x c e v z⟩
  · obtain ⟨m, ⟨o, _, _, ho, _⟩, _⟩ := I.loc
    exact free _ o (fun z => (hch _ z).2.1 rfl) ho I.free
  · obtain ⟨v, o, ho, hd⟩ := I.cell x c e
    exact free c o (fun z => (hch c z).2.2.1 x c e rfl) ho (I.freeC x c e)
  · obtain ⟨e, n, ne, nf, d⟩ := I.pin p hp
    have nch : p.1 ∉ ch := fun z => (hch p.1 z).2.2.2 p hp rfl
    exact ⟨keep p.1 p.2 ne nf nch e n, free p.1 p.2 nch e n, ne, nf, d⟩
/-- .. where the frame's own object is kept too -/
theorem Inv.un {t' : Nat} (I : Inv X pins σ H s) (u : Un X.fs [] H H' s.heap h') (hok : HOk X.prog X.w H' h') : Inv X pins σ H' { s with heap := h', toks := t' } := by
  obtain ⟨m, ⟨o, es, ep, ho, r⟩, _⟩ := id I.loc
  obtain ⟨sl, hL⟩ := u.any ho I.free (by simp)
  exact I.step (g' := s.gens) (d' := s.drawn) (ch := []) (fun _ z => nomatch z) (fun b o _ hb _ e n => u.keep b o e n hb (by simp)) (fun b o _ hb _ e n => u.slot b o e n hb (by simp)) (fun b o _ e n => u.free b o e n (by simp)) (fun b o _ e => u.there b o e (by simp)) u.tups u.frzs u.tbls (fun m' hm => by
    obtain ⟨o', es', ep', ho', r'⟩ := hm
    rw [ho] at ho'; cases ho'
    exact ⟨_, es', ep', hL, r'⟩) hok I.bare
/-- behind a call (or a comprehension's block): the slots of this frame may have changed too, the records at ch may have turned -/
theorem Inv.call {g' : Array GenState} {t' : Nat} {d' : Drawn} {ch : List Addr} (I : Inv X pins σ H s) (u : Un (frs X.stack) ch H H' s.heap h') (hok : HOk X.prog X.w H' h') (hg : AllBare g')
    (hch : ∀ b ∈ ch, (b ∈ X.ex ∨ X.s_0.heap.objs.size ≤ b) ∧ b ≠ X.env.locals ∧ (∀ x c, X.env.cells.lookup x = some c → c ≠ b) ∧ ∀ p ∈ X.pn ++ pins, p.1 ≠ b) :
    Inv X pins σ H' { s with heap := h', gens := g', drawn := d', toks := t' } := by
  obtain ⟨m, ⟨o, es, ep, ho, r⟩, _⟩ := id I.loc
  obtain ⟨sl, hL⟩ := u.any ho I.free fun z => (hch _ z).2.1 rfl
  exact I.step (ch := ch) hch (fun b o hL hb hc e n => u.keep b o e n (fun z => (List.mem_cons.mp (I.stkSub b z)).elim hL hb) hc) (fun b o _ _ hc e n => u.any e n hc) (fun b o hc e n => u.free b o e n hc) (fun b o hc e => u.there b o e hc) u.tups u.frzs u.tbls (fun m' hm => by
    obtain ⟨o', es', ep', ho', r'⟩ := hm
    rw [ho] at ho'; cases ho'
    exact ⟨_, es', ep', hL, r'⟩) hok hg
/-- an untracked record of ours (an iterator) has turned -/
theorem Inv.turned {t' : Nat} {it : Addr} (I : Inv X pins σ H s) (k : ∀ b o, b ≠ it → s.heap.get? b = some o → h'.get? b = some o) (hn : H it = none) (hL : it ≠ X.env.locals)
    (h1 : it ∈ X.ex ∨ X.s_0.heap.objs.size ≤ it) (h2 : ∀ x c, X.env.cells.lookup x = some c → c ≠ it) (h3 : ∀ p ∈ X.pn ++ pins, p.1 ≠ it) : Inv X pins σ H { s with heap := h', toks := t' } := by
  have nit : ∀ b u, H b = some u → b ≠ it := fun b u e z => by rw [z, hn] at e; cases e
  refine I.step (g' := s.gens) (d' := s.drawn) (ch := [it]) (fun b hb => ?_) (fun b o _ _ hc e _ => k b o (fun z => hc (by simp [z])) e) (fun b o _ _ hc e _ => ⟨o.slots, k b o (fun z => hc (by simp [z])) e⟩) (fun _ _ _ _ n => n)
    (fun b o hc e => ⟨o, k b o (fun z => hc (by simp [z])) e⟩) (fun _ _ e => e) (fun _ _ _ e => e) (fun b ps e => ⟨#[], by rw [e]; simp⟩) (fun m hm => ?_) (fun b u e => ?_) I.bare
  · have e : b = it := by simpa using hb
    subst e
    exact ⟨h1, hL, h2, h3⟩
  · obtain ⟨o, es, ep, ho, r⟩ := hm
    exact ⟨o, es, ep, k _ o (Ne.symm hL) ho, r⟩
  · refine (I.hok b u e).stay (fun c v hc q => k c v ?_ q) (fun _ q => q) fun _ _ q => q
    rcases hc with z | z
    · rw [z]; exact nit b u e
    · exact nit c _ z
theorem Inv.tok (I : Inv X pins σ H s) (t : Nat) : Inv X pins σ H { s with toks := t } := I.un (h' := s.heap) (t' := t) Un.refl I.hok
/-- all objects kept -/
theorem Inv.kept {t' : Nat} (I : Inv X pins σ H s) (k : ∀ b u, s.heap.get? b = some u → h'.get? b = some u) : Inv X pins σ H { s with heap := h', toks := t' } := I.un (Un.kept k) (I.hok.kept k)
/-- a new object laid and tracked -/
theorem Inv.laid {a : Addr} {o : HO} {t' : Nat} (I : Inv X pins σ H s) (k : ∀ b u, s.heap.get? b = some u → h'.get? b = some u) (hp : s.heap.objs.size ≤ a) (new : ObjOk X.prog X.w (upd H a o) h' a o) :
    Inv X pins σ (upd H a o) { s with heap := h', toks := t' } := I.un (Un.laid k hp (I.hok.fresh hp)) (I.hok.laid k hp new)
/-- an object written -/
theorem Inv.write {x e : Addr} {o : HO} {t' : Nat} (I : Inv X pins σ H s) (mu : Mut (H x)) (he : e = x ∨ H e = some (.own x)) (k : ∀ b u, b ≠ e → s.heap.get? b = some u → h'.get? b = some u) (heo : ∃ u, h'.get? e = some u)
    (new : ObjOk X.prog X.w (upd H x o) h' x o) : Inv X pins σ (upd H x o) { s with heap := h', toks := t' } := I.un (Un.write mu he k heo) (I.hok.write mu he k heo new)
/-- forgetting slots, pins -/
theorem Inv.weak {σ' : List (Option V)} (I : Inv X pins σ H s) (hl : σ'.length = σ.length) (w : ∀ (i : Nat) v, σ'[i]? = some (some v) → σ[i]? = some (some v)) : Inv X pins σ' H s :=
  ⟨I.ok, I.os, I.bare, I.base, let ⟨m, hn, hl'⟩ := I.loc; ⟨m, hn, fun i x v e1 e2 e3 => hl' i x v e1 (w i v e2) e3⟩, I.cell, I.free, I.freeC, I.pin, I.hok, hl.trans I.len⟩
theorem Inv.pins_of {pins' : List (Addr × Obj)} (I : Inv X pins σ H s) (h : ∀ p ∈ pins', s.heap.get? p.1 = some p.2 ∧ H p.1 = none ∧ p.1 ≠ X.env.locals ∧ p.1 ∉ X.fs ∧ ∀ v, p.2.data ≠ .cell v) : Inv X pins' σ H s :=
  ⟨I.ok, I.os, I.bare, I.base, I.loc, I.cell, I.free, I.freeC, fun p hp => (List.mem_append.mp hp).elim (fun z => I.pin p (List.mem_append_left _ z)) (h p), I.hok, I.len⟩
theorem nodup_ix {N : List Str} (hN : N.Nodup) {i j : Nat} {x : Str} (a : N[i]? = some x) (b : N[j]? = some x) : i = j := by
  obtain ⟨h1, e1⟩ := List.getElem?_eq_some_iff.mp a
  obtain ⟨h2, e2⟩ := List.getElem?_eq_some_iff.mp b
  exact (List.getElem_inj hN).mp (e1.trans e2.symm)
/-- a name is stored; what changed -/
theorem store_ok2 {M : Model} {A : Around} {E : Value → Shared → Prop} {i : Nat} {x : Str} {v : V} {u : Value} {Q : Unit → Shared → Prop} (I : Inv X pins σ H s) (hN : X.N.Nodup) (hi : X.N[i]? = some x) (hx : Loc X.env.scope x) (r : RelV v u)
    (h : ∀ s', Inv X pins (σ.set i (some v)) H s' → (∃ a, Heap.SameBut a s.heap s'.heap ∧ (a = X.env.locals ∨ X.env.cells.lookup x = some a)) → Q () s') (hf : X.fn x = true ∨ X.env.scope.names.lookup x = some .local := by first | exact .inl rfl | exact .inr rfl | assumption) : wpAny M A (storeName X.env x u) Q E s := by
  obtain ⟨m, hn, hl⟩ := id I.loc
  have hcls : (X.env.scope.kind == .class || (X.env.scope.kind == .module && X.env.locals != X.env.globals)) = false := by rw [I.ok.kind]; rfl
  have hiσ : i < σ.length := by rw [I.len]; exact (List.getElem?_eq_some_iff.mp hi).1
  have cne := I.cne
  have tracked : ∀ {a : Addr} {h' : Heap}, (∃ o, s.heap.get? a = some o ∧ H a = none) → Heap.SameBut a s.heap h' → HOk X.prog X.w H h' := fun {a h'} ha hs b ob e => by
    obtain ⟨_, _, hfree⟩ := ha
    refine (I.hok b ob e).stay (fun c w' hc q => (hs.2 c ?_).trans q) (fun _ q => q) fun _ _ q => q
    rintro rfl
    rcases hc with rfl | hc
    · rw [hfree] at e; cases e
    · rw [hfree] at hc; cases hc
  rcases hx with hk | hk
  · refine wpAny_storeName_local hk hn (fun h' hn' hs => ?_) hcls
    obtain ⟨oL, _, _, hoL, _⟩ := id hn
    refine h _ ⟨I.ok, I.os, I.bare, ⟨fun b o e n hb hx => ?_, fun b o e n hb hx => ?_, I.base.free, fun b o e hx => ?_, I.base.tups, I.base.frzs, I.base.tbls⟩, ⟨_, hn', fun j y v' e1 e2 e3 => ?_⟩, fun y c e => ?_, I.free, I.freeC, fun p hp => ?_, tracked ⟨oL, hoL, I.free⟩ hs, by simpa using I.len⟩ ⟨_, hs, .inl rfl⟩
    · exact (hs.2 b (Nat.ne_of_lt (Nat.lt_of_lt_of_le (Heap.lt_size e) I.ok.above))).trans (I.base.keep b o e n hb hx)
    · obtain ⟨sl, e1⟩ := I.base.slot b o e n hb hx
      exact ⟨sl, (hs.2 b (Nat.ne_of_lt (Nat.lt_of_lt_of_le (Heap.lt_size e) I.ok.above))).trans e1⟩
    · obtain ⟨o', e1⟩ := I.base.there b o e hx
      exact ⟨o', (hs.2 b (Nat.ne_of_lt (Nat.lt_of_lt_of_le (Heap.lt_size e) I.ok.above))).trans e1⟩
    · by_cases hj : j = i
      · subst hj
        rw [hi] at e1; cases e1
        rw [List.getElem?_set_self hiσ] at e2
        cases e2
        exact ⟨u, r, .inl ⟨hk, by simp⟩⟩
      · rw [List.getElem?_set_ne (Ne.symm hj)] at e2
        obtain ⟨u', r', q⟩ := hl j y v' e1 e2 e3
        refine ⟨u', r', ?_⟩
        rcases q with ⟨k, e⟩ | ⟨k, c, e, z⟩
        · refine .inl ⟨k, ?_⟩
          have : y ≠ x := fun e => hj (nodup_ix hN e1 (e ▸ hi))
          simp [this, e]
        · exact .inr ⟨k, c, e, z.sameBut hs (cne y c e)⟩
    · obtain ⟨w', z⟩ := I.cell y c e
      exact ⟨w', z.sameBut hs (cne y c e)⟩
    · obtain ⟨e, n, ne, nf, d⟩ := I.pin p hp
      exact ⟨(hs.2 p.1 ne).trans e, n, ne, nf, d⟩
  · have hfn : X.fn x = true := by
      rcases hf with z | z
      · exact z
      · rw [z] at hk; cases hk
    obtain ⟨c, hc⟩ := I.ok.has x (.inl hk)
    obtain ⟨w', z⟩ := I.cell x c hc
    refine wpAny_storeName_cell I.ok.kind hk hc z (fun h' hc' hs => ?_)
    obtain ⟨oc, hoc, hocd⟩ := id z
    refine h { s with heap := h' } ⟨I.ok, I.os, I.bare, ⟨fun b o e n hb hx => ?_, fun b o e n hb hx => ?_, I.base.free, fun b o e hx => ?_, I.base.tups, I.base.frzs, I.base.tbls⟩, ⟨m, hn.sameBut hs (Ne.symm (cne x c hc)), fun j y v' e1 e2 e3 => ?_⟩, fun y c' e => ?_, I.free, I.freeC, fun p hp => ?_, tracked ⟨oc, hoc, I.freeC x c hc⟩ hs, by simpa using I.len⟩ ⟨c, hs, .inr hc⟩
    · exact (hs.2 b (Nat.ne_of_lt (Nat.lt_of_lt_of_le (Heap.lt_size e) (I.ok.cab x c hfn hc)))).trans (I.base.keep b o e n hb hx)
    · obtain ⟨sl, e1⟩ := I.base.slot b o e n hb hx
      exact ⟨sl, (hs.2 b (Nat.ne_of_lt (Nat.lt_of_lt_of_le (Heap.lt_size e) (I.ok.cab x c hfn hc)))).trans e1⟩
    · obtain ⟨o', e1⟩ := I.base.there b o e hx
      exact ⟨o', (hs.2 b (Nat.ne_of_lt (Nat.lt_of_lt_of_le (Heap.lt_size e) (I.ok.cab x c hfn hc)))).trans e1⟩
    · by_cases hj : j = i
      · subst hj
        rw [hi] at e1; cases e1
        rw [List.getElem?_set_self hiσ] at e2
        cases e2
        exact ⟨u, r, .inr ⟨.inl hk, c, hc, hc'⟩⟩
      · rw [List.getElem?_set_ne (Ne.symm hj)] at e2
        obtain ⟨u', r', q⟩ := hl j y v' e1 e2 e3
        refine ⟨u', r', ?_⟩
        rcases q with q | ⟨k, c', e, z'⟩
        · exact .inl q
        · refine .inr ⟨k, c', e, z'.sameBut hs ?_⟩
          rintro rfl
          exact hj (nodup_ix hN e1 (I.ok.inj _ _ _ e hc ▸ hi))
    · by_cases hcc : c' = c
      · subst hcc; exact ⟨_, hc'⟩
      · obtain ⟨w2, z2⟩ := I.cell y c' e
        exact ⟨w2, z2.sameBut hs hcc⟩
    · obtain ⟨e, n, ne, nf, d⟩ := I.pin p hp
      refine ⟨(hs.2 p.1 ?_).trans e, n, ne, nf, d⟩
      intro q
      rw [q, hoc] at e
      have q' : oc = p.2 := Option.some.inj e
      exact d w' (by rw [← q']; exact hocd)
theorem store_ok {M : Model} {A : Around} {E : Value → Shared → Prop} {i : Nat} {x : Str} {v : V} {u : Value} {Q : Unit → Shared → Prop} (I : Inv X pins σ H s) (hN : X.N.Nodup) (hi : X.N[i]? = some x) (hx : Loc X.env.scope x) (r : RelV v u)
    (h : ∀ s', Inv X pins (σ.set i (some v)) H s' → Q () s') (hf : X.fn x = true ∨ X.env.scope.names.lookup x = some .local := by first | exact .inl rfl | exact .inr rfl | assumption) : wpAny M A (storeName X.env x u) Q E s :=
  store_ok2 I hN hi hx r (fun s' I' _ => h s' I') hf
/-- behind a call or a block, the state as it is -/
theorem Inv.call' {s' : Shared} {ch : List Addr} (I : Inv X pins σ H s) (ho : s'.os = s.os) (u : Un (frs X.stack) ch H H' s.heap s'.heap) (hok : HOk X.prog X.w H' s'.heap) (hg : AllBare s'.gens)
    (hch : ∀ b ∈ ch, (b ∈ X.ex ∨ X.s_0.heap.objs.size ≤ b) ∧ b ≠ X.env.locals ∧ (∀ x c, X.env.cells.lookup x = some c → c ≠ b) ∧ ∀ p ∈ X.pn ++ pins, p.1 ≠ b) : Inv X pins σ H' s' := by
  obtain ⟨h', g', d', t', o'⟩ := s'
  have e : o' = s.os := ho
  subst e
  exact I.call (g' := g') (t' := t') (d' := d') u hok hg hch
end
/-! ### the judgements -/
/-- an exception: its class, its own dict's address (where it has one), the abstract heap behind it -/
abbrev XK := Value → Option Addr → Hp → Prop
abbrev St := List (Option V)
abbrev VK := V → Hp → Prop
/-- an expression's reading; a test's; an argument list's -/
abbrev TE := St → Hp → VK → Prop
abbrev TT := St → Hp → (Bool → Hp → Prop) → Prop
abbrev TA := St → Hp → (List V → Hp → Prop) → Prop
/-- what is wanted behind a statement -/
structure Ends where
  nx : St → Hp → Prop
  rt : VK
  bk : St → Hp → Prop := fun _ _ => False
  ct : St → Hp → Prop := fun _ _ => False
abbrev TS := Ends → St → Hp → Prop
def EP (X : Cx) (pins : List (Addr × Obj)) (σ : St) (Q : VK) (u : Value) (s' : Shared) : Prop := ∃ v H', Inv X pins σ H' s' ∧ RelV v u ∧ Q v H'
def TP (X : Cx) (pins : List (Addr × Obj)) (σ : St) (Q : Bool → Hp → Prop) (b : Bool) (s' : Shared) : Prop := ∃ H', Inv X pins σ H' s' ∧ Q b H'
def AP (X : Cx) (pins : List (Addr × Obj)) (σ : St) (Q : List V → Hp → Prop) (us : List Value) (s' : Shared) : Prop := ∃ vs H', Inv X pins σ H' s' ∧ Vals vs us ∧ Q vs H'
def SP (X : Cx) (pins : List (Addr × Obj)) (D : Ends) (f : Flow) (s' : Shared) : Prop :=
  match f with
  | .next => ∃ σ' H', Inv X pins σ' H' s' ∧ D.nx σ' H'
  | .brk => ∃ σ' H', Inv X pins σ' H' s' ∧ D.bk σ' H'
  | .cont => ∃ σ' H', Inv X pins σ' H' s' ∧ D.ct σ' H'
  | .ret u => ∃ v σ' H', Inv X pins σ' H' s' ∧ RelV v u ∧ D.rt v H'
def PE (X : Cx) (e : Expr) (t : TE) : Prop :=
  ∀ (pins : List (Addr × Obj)) (s : Shared) (σ : St) (H : Hp) (Q : VK), Inv X pins σ H s → t σ H Q → wpAny (model X.prog X.w) X.A (eval e X.env) (EP X pins σ Q) X.xe s
def PT (X : Cx) (e : Expr) (t : TT) : Prop :=
  ∀ (pins : List (Addr × Obj)) (s : Shared) (σ : St) (H : Hp) (Q : Bool → Hp → Prop), Inv X pins σ H s → t σ H Q → wpAny (model X.prog X.w) X.A (isTrue e X.env (eval e X.env)) (TP X pins σ Q) X.xe s
/-- a test whatever its 'whole' is (and, or) -/
def PW (X : Cx) (e : Expr) (t : TT) : Prop :=
  ∀ (whole : Sem Value) (pins : List (Addr × Obj)) (s : Shared) (σ : St) (H : Hp) (Q : Bool → Hp → Prop), Inv X pins σ H s → t σ H Q → wpAny (model X.prog X.w) X.A (isTrue e X.env whole) (TP X pins σ Q) X.xe s
theorem PW.pt {X : Cx} {e : Expr} {t : TT} (h : PW X e t) : PT X e t := h _
/-- an argument list (no star), from the left -/
def PA (X : Cx) (es : List Expr) (t : TA) : Prop :=
  ∀ (pos : Pos) (pins : List (Addr × Obj)) (s : Shared) (σ : St) (H : Hp) (Q : List V → Hp → Prop), Inv X pins σ H s → t σ H Q → wpAny (model X.prog X.w) X.A (spliced (backTo pos (starEach es X.env))) (AP X pins σ Q) X.xe s
def PS (X : Cx) (st : Stmt) (t : TS) : Prop :=
  ∀ (pins : List (Addr × Obj)) (s : Shared) (σ : St) (H : Hp) (D : Ends), Inv X pins σ H s → t D σ H → wpAny (model X.prog X.w) X.A (exec st X.env) (SP X pins D) X.xe s
def PSs (X : Cx) (st : List Stmt) (t : TS) : Prop :=
  ∀ (pins : List (Addr × Obj)) (s : Shared) (σ : St) (H : Hp) (D : Ends), Inv X pins σ H s → t D σ H → wpAny (model X.prog X.w) X.A (execs st X.env) (SP X pins D) X.xe s
/-- weaken the end -/
theorem thn {α : Type} {t : Sem α} {Q Q' : α → Shared → Prop} {M : Model} {A : Around} {E : Value → Shared → Prop} {s : Shared} (h : wpAny M A t Q E s) (hQ : ∀ a s, Q a s → Q' a s) : wpAny M A t Q' E s := wpAny_mono h hQ fun _ _ x => x
end L2
namespace L2
open PySem PySem.Spec PyProof.Rows
section
variable {X : Cx}
/-- two expressions in a row -/
theorem bin {a b : Expr} {ta tb : TE} (ha : PE X a ta) (hb : PE X b tb) {pins : List (Addr × Obj)} {s : Shared} {σ : St} {H : Hp} {R : V → V → Hp → Prop} (I : Inv X pins σ H s) (h : ta σ H fun x H1 => tb σ H1 fun y H2 => R x y H2)
    {α : Type} {Q : α → Shared → Prop} {f : Value → Value → Sem α}
    (hf : ∀ v u s2 x y H2, Inv X pins σ H2 s2 → RelV x v → RelV y u → R x y H2 → wpAny (model X.prog X.w) X.A (f v u) Q X.xe s2) :
    wpAny (model X.prog X.w) X.A (eval a X.env) (fun v s₁ => wpAny (model X.prog X.w) X.A (eval b X.env) (fun u s₂ => wpAny (model X.prog X.w) X.A (f v u) Q X.xe s₂) X.xe s₁) X.xe s := by
  refine thn (ha pins s σ H _ I h) fun v s1 ⟨x, H1, I1, r1, q1⟩ => ?_
  refine thn (hb pins s1 σ H1 _ I1 q1) fun u s2 ⟨y, H2, I2, r2, q2⟩ => ?_
  exact hf v u s2 x y H2 I2 r1 r2 q2
/-! ### names and constants -/
def tVar (i : Nat) : TE := fun σ H Q => ∃ v, σ[i]? = some (some v) ∧ Q v H
def tC (v : V) : TE := fun _ H Q => Q v H
theorem pe_var {i : Nat} {x : Str} {pos : Pos} (hN : X.N[i]? = some x) (hv : Vis X.env.scope x) (hd : (x == ("__debug__" : Str)) = false := by decide) (hcd : (x == ("__classdict__" : Str)) = false := by decide) : PE X (.Name x pos) (tVar i) := by
  intro pins s σ H Q I h
  obtain ⟨v, e, h⟩ := h
  obtain ⟨m, hn, hl⟩ := I.loc
  obtain ⟨u, r, l⟩ := hl i x v hN e hv
  have fin : EP X pins σ Q u s := ⟨v, H, I, r, h⟩
  rcases l with ⟨hk, hm⟩ | ⟨hk, c, hc, hcell⟩
  · exact wpAny_Name (wpAny_loadName_local I.ok.kind hk hn hm fin) hd
  · rcases hk with hk | hk
    · exact wpAny_Name (wpAny_loadName_cell I.ok.kind hk hc hcell fin) hd
    · exact wpAny_Name (wpAny_loadName_free I.ok.kind hk hc hcell fin hcd) hd
theorem pe_int {i j pos} : PE X (.Constant (.int i) j pos) (tC (.int i)) := fun _ _ _ H _ I h => wpAny_Constant_int ⟨.int i, H, I.tok _, ⟨_, rfl⟩, h⟩
theorem pe_bl {b j pos} : PE X (.Constant (.bool b) j pos) (tC (.bl b)) := fun _ _ _ H _ I h => Constant_bool ⟨.bl b, H, I, rfl, h⟩
theorem pe_non {j pos} : PE X (.Constant .none j pos) (tC .non) := fun _ _ _ H _ I h => Constant_none ⟨.non, H, I, rfl, h⟩
/-- a global name of the def -/
def Gl (X : Cx) (x : Str) : Prop := X.env.kindOf x = some .globalImplicit
theorem ld_glob {E : Value → Shared → Prop} {pins : List (Addr × Obj)} {s : Shared} {σ : St} {H : Hp} {x : Str} {u : Value} {pos : Pos} {Q : Value → Shared → Prop} (I : Inv X pins σ H s) (hg : Gl X x) (hm : X.mg x = some u) (h : Q u s)
    (hd : (x == ("__debug__" : Str)) = false := by decide) : wpAny (model X.prog X.w) X.A (eval (.Name x pos) X.env) Q E s :=
  Calls.Name_function_global I.ok.kind hg (Calls.loadGlobal_global (by rw [I.ok.glob]; exact I.mod.glob.keeps I.bk) hm h) hd
theorem ld_blt {E : Value → Shared → Prop} {pins : List (Addr × Obj)} {s : Shared} {σ : St} {H : Hp} {x : Str} {u : Value} {pos : Pos} {Q : Value → Shared → Prop} (I : Inv X pins σ H s) (hg : Gl X x) (hm : X.mg x = none) (hv : bootBuiltins x = some u) (h : Q u s)
    (hn : x ≠ "__name__" := by decide) (hd : (x == ("__debug__" : Str)) = false := by decide) : wpAny (model X.prog X.w) X.A (eval (.Name x pos) X.env) Q E s := by
  obtain ⟨mb, h1, h2⟩ := I.mod.blt
  exact Calls.Name_function_global I.ok.kind hg (Calls.loadGlobal_builtin (by rw [I.ok.glob]; exact I.mod.glob.keeps I.bk) hm (by rw [I.ok.blt]; exact h1.keeps I.bk) ((h2 x hn).trans hv) h) hd
/-- a module's constant, a class, a function, as a value -/
theorem pe_glob {x : Str} {v : V} {u : Value} {pos : Pos} (hg : Gl X x) (hm : X.mg x = some u) (r : RelV v u) (hd : (x == ("__debug__" : Str)) = false := by decide) : PE X (.Name x pos) (tC v) :=
  fun _ _ _ H _ I h => ld_glob I hg hm ⟨v, H, I, r, h⟩ hd
/-! ### arithmetic -/
variable {a b : Expr} {ta tb : TE} {pos : Pos}
/-! ### comparisons -/
def PC (X : Cx) (op : CmpOp) (a b : Expr) (t : TE) : Prop :=
  ∀ (pins : List (Addr × Obj)) (s : Shared) (σ : St) (H : Hp) (Q : VK), Inv X pins σ H s → t σ H Q →
    wpAny (model X.prog X.w) X.A (eval a X.env) (fun v s₁ => wpAny (model X.prog X.w) X.A (eval b X.env) (fun u s₂ => wpAny (model X.prog X.w) X.A (compareOp op v u) (EP X pins σ Q) X.xe s₂) X.xe s₁) X.xe s
theorem nobehind (b : Expr) {op : CmpOp} (h : op ≠ .In) (h2 : op ≠ .NotIn) : behindInMarks op b = false := by
  have e1 : (op == CmpOp.In) = false := by cases op <;> first | rfl | exact absurd rfl h
  have e2 : (op == CmpOp.NotIn) = false := by cases op <;> first | rfl | exact absurd rfl h2
  cases b <;> simp [behindInMarks, e1, e2]
/-- a comparison as a value, as a test -/
def tB (t : TE) : TT := fun σ H Q => t σ H fun x H1 => ∃ c, x = .bl c ∧ Q c H1
theorem pt_cmp {op : CmpOp} {t : TE} (h : PC X op a b t) (h1 : behindInMarks op b = false := by first | exact nobehind _ (by decide) (by decide) | rfl) : PT X (.Compare a [op] [b] pos) (tB t) := by
  intro pins s σ H Q I hw
  refine wpAny_isTrue_Compare1 (thn (h pins s σ H _ I hw) fun v s1 h1 => thn h1 fun u s2 h2 => thn h2 fun c s3 ⟨x, H1, I1, r1, q1⟩ => ?_) h1
  obtain ⟨d, rfl, q⟩ := q1
  cases r1
  exact wpAny_truthy_bool ⟨H1, I1, q⟩
/-- an expression whose value is a bool, as a test -/
theorem pt_val {e : Expr} {t : TE} (h : PE X e t) (he : ∀ whole, isTrue e X.env whole = (do let v ← whole; standAt e.pos; holding [v] (truthy v)) := by intro _; rfl) : PT X e (tB t) := by
  intro pins s σ H Q I hw
  refine isTrue_plain (thn (h pins s σ H _ I hw) fun v s1 ⟨x, H1, I1, r1, q1⟩ => ?_) (he _)
  obtain ⟨d, rfl, q⟩ := q1
  cases r1
  exact wpAny_truthy_bool ⟨H1, I1, q⟩
/-! ### and, or, not -/
variable {tA tB' : TT} {rest : List Expr}
def tAnd (t u : TT) : TT := fun σ H Q => t σ H fun c H1 => if c = true then u σ H1 Q else Q false H1
def tOr (t u : TT) : TT := fun σ H Q => t σ H fun c H1 => if c = true then Q true H1 else u σ H1 Q
def tNot (t : TT) : TT := fun σ H Q => t σ H fun c H1 => Q (!c) H1
theorem pw_and1 (ha : PT X a tA) : PW X (.BoolOp .And [a] pos) tA := by
  intro wh pins s σ H Q I h
  refine isTrue_and (thn (ha pins s σ H Q I h) fun c s1 e => ?_)
  cases c with
  | true => exact isTrue_and_nil e
  | false => exact e
theorem pw_or1 (ha : PT X a tA) : PW X (.BoolOp .Or [a] pos) tA := by
  intro wh pins s σ H Q I h
  refine isTrue_or (thn (ha pins s σ H Q I h) fun c s1 e => ?_)
  cases c with
  | false => exact isTrue_or_nil e
  | true => exact e
theorem pw_and (ha : PT X a tA) (hb : PW X (.BoolOp .And (b :: rest) pos) tB') : PW X (.BoolOp .And (a :: b :: rest) pos) (tAnd tA tB') := by
  intro wh pins s σ H Q I h
  refine isTrue_and (thn (ha pins s σ H _ I h) fun c s1 ⟨H1, I1, q1⟩ => ?_)
  cases c with
  | true => exact hb wh pins s1 σ H1 Q I1 q1
  | false => exact ⟨H1, I1, q1⟩
theorem pw_or (ha : PT X a tA) (hb : PW X (.BoolOp .Or (b :: rest) pos) tB') : PW X (.BoolOp .Or (a :: b :: rest) pos) (tOr tA tB') := by
  intro wh pins s σ H Q I h
  refine isTrue_or (thn (ha pins s σ H _ I h) fun c s1 ⟨H1, I1, q1⟩ => ?_)
  cases c with
  | true => exact ⟨H1, I1, q1⟩
  | false => exact hb wh pins s1 σ H1 Q I1 q1
theorem pt_not (ha : PT X a tA) : PT X (.UnaryOp .Not a pos) (tNot tA) := by
  intro pins s σ H Q I h
  exact isTrue_not (ha pins s σ H (fun c H1 => Q (!c) H1) I h)
/-- .. as values (bools) -/
def tAndV (ta tb : TE) : TE := fun σ H Q => ta σ H fun x H1 => ∃ c, x = .bl c ∧ if c = true then tb σ H1 Q else Q (.bl false) H1
def tOrV (ta tb : TE) : TE := fun σ H Q => ta σ H fun x H1 => ∃ c, x = .bl c ∧ if c = true then Q (.bl true) H1 else tb σ H1 Q
theorem pe_one {op} {t : TE} (h : PE X a t) : PE X (.BoolOp op [a] pos) t := fun pins s σ H Q I hw => BoolOp_one (h pins s σ H Q I hw)
theorem pe_and (ha : PE X a ta) (hb : PE X (.BoolOp .And (b :: rest) pos) tb) : PE X (.BoolOp .And (a :: b :: rest) pos) (tAndV ta tb) := by
  intro pins s σ H Q I h
  refine BoolOp_and (thn (ha pins s σ H _ I h) fun v s1 ⟨x, H1, I1, r1, q1⟩ => ?_)
  obtain ⟨c, rfl, q1⟩ := q1
  cases r1
  refine wpAny_truthy_bool ?_
  cases c with
  | true => exact hb pins s1 σ H1 Q I1 q1
  | false => exact ⟨.bl false, H1, I1, rfl, q1⟩
theorem pe_or (ha : PE X a ta) (hb : PE X (.BoolOp .Or (b :: rest) pos) tb) : PE X (.BoolOp .Or (a :: b :: rest) pos) (tOrV ta tb) := by
  intro pins s σ H Q I h
  refine BoolOp_or (thn (ha pins s σ H _ I h) fun v s1 ⟨x, H1, I1, r1, q1⟩ => ?_)
  obtain ⟨c, rfl, q1⟩ := q1
  cases r1
  refine wpAny_truthy_bool ?_
  cases c with
  | false => exact hb pins s1 σ H1 Q I1 q1
  | true => exact ⟨.bl true, H1, I1, rfl, q1⟩
end
end L2
namespace L2
open PySem PySem.Spec PyProof.Rows
/-! ### a list, a tuple that is read: tracked, frozen, or an object of the module -/
def SqL (K : PySem.W.Frag) (H : Hp) (a : Addr) (xs : List V) : Prop :=
  Rd H a (.lst xs) ∨
    ∃ (o : Obj) (its : Array Value) (n : Nat), K.lookup a = some o ∧ o.cls = .type "list" ∧ o.dict = none ∧ o.data = .seq its n ∧ its.size ≤ sizeLine ∧ Vals xs its.toList
def SqT (K : PySem.W.Frag) (H : Hp) (a : Addr) (xs : List V) : Prop :=
  Rd H a (.tup xs) ∨
    ∃ (o : Obj) (its : Array Value) (n : Nat), K.lookup a = some o ∧ o.cls = .type "tuple" ∧ o.data = .seq its n ∧ its.size ≤ sizeLine ∧ Vals xs its.toList
def absV : Value → Option V
  | .none => some .non
  | .bool b => some (.bl b)
  | .int i _ => some (.int i)
  | .str x _ => some (.str x)
  | .bytes b _ => some (.byt b)
  | .float b _ => some (.flt b)
  | .ref a => some (.ref a)
  | .type n => some (.ty n)
  | _ => none
theorem RelV.abs {x : V} {u : Value} (r : RelV x u) : absV u = some x := by
  cases x with
  | non => cases r; rfl
  | bl _ => cases r; rfl
  | int _ => obtain ⟨t, rfl⟩ := r; rfl
  | str _ => obtain ⟨t, rfl⟩ := r; rfl
  | byt _ => obtain ⟨t, rfl⟩ := r; rfl
  | flt _ => obtain ⟨t, rfl⟩ := r; rfl
  | ref _ => cases r; rfl
  | ty _ => cases r; rfl
theorem RelV.inj {x y : V} {u : Value} (r : RelV x u) (q : RelV y u) : x = y := Option.some.inj (r.abs.symm.trans q.abs)
theorem Vals.inj : ∀ {xs ys : List V} {us : List Value}, Vals xs us → Vals ys us → xs = ys
  | _, _, _, .nil, .nil => rfl
  | _, _, _, .cons r t, .cons r' t' => by rw [r.inj r', Vals.inj t t']
section
variable {X : Cx} {pins : List (Addr × Obj)} {σ : St} {H : Hp} {s : Shared} {a : Addr} {xs ys : List V}
theorem SqL.of {K : PySem.W.Frag} (h : H a = some (.lst xs)) : SqL K H a xs := .inl (.inl h)
theorem SqT.of {K : PySem.W.Frag} (h : H a = some (.tup xs)) : SqT K H a xs := .inl (.inl h)
theorem Inv.list (I : Inv X pins σ H s) (h : SqL X.K H a xs) : ∃ its : List Value, Vals xs its ∧ PlainL s.heap a its.toArray ∧ xs.length ≤ sizeLine := by
  rcases h with h | ⟨o, its, n, hk, hc, hd, hs, hz, r⟩
  · obtain ⟨z, its, n, r, e⟩ := h.ok I.hok
    exact ⟨its, r, ⟨_, n, e, rfl, rfl, rfl⟩, z⟩
  · refine ⟨its.toList, r, ⟨o, n, I.kIn a o hk, hc, hd, by simpa using hs⟩, ?_⟩
    have e := r.length
    simp only [Array.length_toList] at e
    omega
theorem Inv.tuple (I : Inv X pins σ H s) (h : SqT X.K H a xs) : ∃ its : List Value, Vals xs its ∧ IsTup s.heap a its.toArray ∧ xs.length ≤ sizeLine := by
  rcases h with h | ⟨o, its, n, hk, hc, hs, hz, r⟩
  · obtain ⟨z, its, r, p⟩ := h.ok I.hok
    exact ⟨its, r, p, z⟩
  · refine ⟨its.toList, r, ⟨o, I.kIn a o hk, hc, n, by simpa using hs⟩, ?_⟩
    have e := r.length
    simp only [Array.length_toList] at e
    omega
theorem Inv.list_inj (I : Inv X pins σ H s) (h : SqL X.K H a xs) (h' : SqL X.K H a ys) : xs = ys := by
  obtain ⟨its, r, ⟨o, n, e, _, _, d⟩, _⟩ := I.list h
  obtain ⟨its', r', ⟨o', n', e', _, _, d'⟩, _⟩ := I.list h'
  rw [e] at e'; cases e'
  rw [d] at d'
  injection d' with d1 _
  have : its = its' := by simpa using congrArg Array.toList d1
  subst this
  exact r.inj r'
theorem Inv.tuple_inj (I : Inv X pins σ H s) (h : SqT X.K H a xs) (h' : SqT X.K H a ys) : xs = ys := by
  obtain ⟨its, r, ⟨o, e, _, n, d⟩, _⟩ := I.tuple h
  obtain ⟨its', r', ⟨o', e', _, n', d'⟩, _⟩ := I.tuple h'
  rw [e] at e'; cases e'
  rw [d] at d'
  injection d' with d1 _
  have : its = its' := by simpa using congrArg Array.toList d1
  subst this
  exact r.inj r'
end
/-! ### another wish about exceptions -/
abbrev Cx.wish (X : Cx) (E : Value → Shared → Prop) : Cx := { X with xe := E }
/-- no exception leaves -/
abbrev Cx.nox (X : Cx) : Cx := X.wish fun _ _ => False
theorem Cx.Ok.wish {X : Cx} (ok : X.Ok) (E : Value → Shared → Prop) : (X.wish E).Ok :=
  ⟨ok.mod, ok.kind, ok.glob, ok.blt, ok.above, ok.inj, ok.has, ok.cab, ok.hd, ok.frames, ok.stk, ok.exf, ok.bs, ok.bsz, ok.noex, ok.exfs, ok.funs, ok.frf⟩
theorem Cx.Ok.unwish {X : Cx} {E : Value → Shared → Prop} (ok : (X.wish E).Ok) : X.Ok :=
  ⟨ok.mod, ok.kind, ok.glob, ok.blt, ok.above, ok.inj, ok.has, ok.cab, ok.hd, ok.frames, ok.stk, ok.exf, ok.bs, ok.bsz, ok.noex, ok.exfs, ok.funs, ok.frf⟩
section
variable {X : Cx} {pins : List (Addr × Obj)} {σ : St} {H : Hp} {s : Shared} {E : Value → Shared → Prop}
theorem Inv.wish (I : Inv X pins σ H s) (E : Value → Shared → Prop) : Inv (X.wish E) pins σ H s := ⟨I.ok.wish E, I.os, I.bare, I.base, I.loc, I.cell, I.free, I.freeC, I.pin, I.hok, I.len⟩
theorem Inv.unwish (I : Inv (X.wish E) pins σ H s) : Inv X pins σ H s := ⟨I.ok.unwish, I.os, I.bare, I.base, I.loc, I.cell, I.free, I.freeC, I.pin, I.hok, I.len⟩
theorem SP.unwish {D : Ends} {f : Flow} {s' : Shared} (h : SP (X.wish E) pins D f s') : SP X pins D f s' := by
  cases f with
  | next => obtain ⟨σ', H', I, q⟩ := h; exact ⟨σ', H', I.unwish, q⟩
  | brk => obtain ⟨σ', H', I, q⟩ := h; exact ⟨σ', H', I.unwish, q⟩
  | cont => obtain ⟨σ', H', I, q⟩ := h; exact ⟨σ', H', I.unwish, q⟩
  | ret u => obtain ⟨v, σ', H', I, r, q⟩ := h; exact ⟨v, σ', H', I.unwish, r, q⟩
theorem PSs.nox {st : List Stmt} {t : TS} (h : PSs X.nox st t) : PSs X st t := fun pins s σ H D I hw =>
  wpAny_mono (h pins s σ H D (I.wish _) hw) (fun _ _ q => q.unwish) fun _ _ z => False.elim z
end
/-! ### blocks and small statements -/
section
variable {X : Cx} {st : Stmt} {rest : List Stmt} {t u : TS} {e : Expr} {te : TE} {pos : Pos}
def tNext : TS := fun D σ H => D.nx σ H
def tSeq (t u : TS) : TS := fun D σ H => t { D with nx := u D } σ H
theorem pss_nil : PSs X [] tNext := fun _ _ σ H _ I h => wpAny_execs_nil ⟨σ, H, I, h⟩
theorem pss_cons (h1 : PS X st t) (h2 : PSs X rest u) : PSs X (st :: rest) (tSeq t u) := by
  intro pins s σ H D I h
  refine wpAny_execs_cons (thn (h1 pins s σ H { D with nx := u D } I h) fun f s1 q => ?_)
  cases f with
  | next =>
    obtain ⟨σ', H', I', q⟩ := q
    exact h2 pins s1 σ' H' D I' q
  | ret v => exact q
  | brk => exact q
  | cont => exact q
theorem pss_one (h1 : PS X st t) : PSs X [st] t := by
  intro pins s σ H D I h
  refine wpAny_execs_cons (thn (h1 pins s σ H D I h) fun f s1 q => ?_)
  cases f with
  | next => exact wpAny_execs_nil q
  | ret v => exact q
  | brk => exact q
  | cont => exact q
/-- in a def's body nothing is shown -/
theorem Inv.quiet {pins : List (Addr × Obj)} {σ : St} {H : Hp} {s : Shared} (I : Inv X pins σ H s) : interactive X.env = false := by simp [interactive, I.ok.kind]
/-- an expression whose value is dropped -/
def tDrop (te : TE) : TS := fun D σ H => te σ H fun _ H1 => D.nx σ H1
theorem ps_expr (he : PE X e te) (hs : swapsWith e none pos.line X.env = pure false := by rfl) : PS X (.Expr e pos) (tDrop te) := by
  intro pins s σ H D I h
  exact wpAny_Expr_any (thn (he pins s σ H _ I h) fun v s1 ⟨x, H1, I1, r1, q1⟩ => ⟨σ, H1, I1, q1⟩) I.quiet hs
def tRet (te : TE) : TS := fun D σ H => te σ H D.rt
theorem ps_ret (he : PE X e te) : PS X (.Return (some e) pos) (tRet te) := by
  intro pins s σ H D I h
  exact wpAny_Return_some (thn (he pins s σ H _ I h) fun v s1 ⟨x, H1, I1, r1, q1⟩ => ⟨x, σ, H1, I1, r1, q1⟩)
def tIfS (c : TT) (t u : TS) : TS := fun D σ H => c σ H fun b H1 => if b = true then t D σ H1 else u D σ H1
theorem ps_if {c : Expr} {a b : List Stmt} {tc : TT} (hc : PT X c tc) (ha : PSs X a t) (hb : PSs X b u) : PS X (.If c a b pos) (tIfS tc t u) := by
  intro pins s σ H D I h
  refine wpAny_If (thn (hc pins s σ H _ I h) fun d s1 ⟨H1, I1, q1⟩ => ?_)
  cases d with
  | true => exact ha pins s1 σ H1 D I1 q1
  | false => exact hb pins s1 σ H1 D I1 q1
end
/-! ### targets -/
abbrev TG := V → St → Hp → (St → Hp → Prop) → Prop
abbrev TGs := List V → St → Hp → (St → Hp → Prop) → Prop
def PG (X : Cx) (target : Expr) (t : TG) : Prop :=
  ∀ (pins : List (Addr × Obj)) (s : Shared) (σ : St) (H : Hp) (v : V) (u : Value) (Q : St → Hp → Prop), Inv X pins σ H s → RelV v u → t v σ H Q →
    wpAny (model X.prog X.w) X.A (assign target X.env u) (fun _ s' => ∃ σ' H', Inv X pins σ' H' s' ∧ Q σ' H') X.xe s
/-- several targets, one after another -/
def PGs (X : Cx) (ts : List Expr) (t : TGs) : Prop :=
  ∀ (pins : List (Addr × Obj)) (s : Shared) (σ : St) (H : Hp) (vs : List V) (us : List Value) (Q : St → Hp → Prop), Inv X pins σ H s → Vals vs us → t vs σ H Q →
    wpAny (model X.prog X.w) X.A (assignInOrder ((assignEach ts X.env).map (·.2)) us) (fun _ s' => ∃ σ' H', Inv X pins σ' H' s' ∧ Q σ' H') X.xe s
section
variable {X : Cx} {pos : Pos}
def gName (i : Nat) : TG := fun v σ H Q => Q (σ.set i (some v)) H
theorem pg_name {i : Nat} {x : Str} (hN : X.N.Nodup) (hi : X.N[i]? = some x) (hx : Loc X.env.scope x) (hf : X.fn x = true ∨ X.env.scope.names.lookup x = some .local := by first | exact .inl rfl | exact .inr rfl | assumption) : PG X (.Name x pos) (gName i) := by
  intro pins s σ H v u Q I r h
  exact wpAny_assign_Name (store_ok I hN hi hx r (fun s' I' => ⟨_, H, I', h⟩) hf)
def gNil : TGs := fun vs σ H Q => vs = [] ∧ Q σ H
def gCons (t : TG) (u : TGs) : TGs := fun vs σ H Q => ∃ v r, vs = v :: r ∧ t v σ H fun σ' H' => u r σ' H' Q
theorem pgs_nil : PGs X [] gNil := by
  intro pins s σ H vs us Q I r h
  obtain ⟨e, h⟩ := h
  subst e
  cases r
  exact assignInOrder_nil ⟨σ, H, I, h⟩
theorem pgs_cons {e : Expr} {es : List Expr} {t : TG} {u : TGs} (h1 : PG X e t) (h2 : PGs X es u)
    (hs : (assignEach (e :: es) X.env).map (·.2) = assign e X.env :: (assignEach es X.env).map (·.2) := by rfl) : PGs X (e :: es) (gCons t u) := by
  intro pins s σ H vs us Q I r h
  obtain ⟨v, vr, e1, h⟩ := h
  subst e1
  cases r with
  | cons r rr =>
    rw [hs]
    refine assignInOrder_cons (thn (h1 pins s σ H _ _ _ I r h) fun _ s1 ⟨σ1, H1, I1, q1⟩ => ?_)
    exact h2 pins s1 σ1 H1 _ _ Q I1 rr q1
/-- (a, b, ..) = a tuple of that length -/
def gTup (K : PySem.W.Frag) (n : Nat) (t : TGs) : TG := fun v σ H Q => ∃ a xs, v = .ref a ∧ SqT K H a xs ∧ xs.length = n ∧ t xs σ H Q
theorem pg_tup {es : List Expr} {k : Nat} {t : TGs} {n : Nat} (hc : X.calm = true) (h : PGs X es t)
    (hn : (assignEach es X.env).length = n := by rfl) (hst : (assignEach es X.env).findIdx? (·.1) = none := by rfl) : PG X (.Tuple es k pos) (gTup X.K n t) := by
  intro pins s σ H v u Q I r hw
  obtain ⟨a, xs, e1, hq, hl, hw⟩ := hw
  subst e1
  cases r
  obtain ⟨its, rv, ht, hz⟩ := I.tuple hq
  refine assign_Tuple_tuple (I.ok.hd hc) ht (by simp [hn, ← hl, rv.length]) hst fun h' hx => ?_
  have I1 : Inv X pins σ H { s with heap := h' } := I.kept (t' := s.toks) fun b o e => hx b o (Nat.ne_of_lt (Heap.lt_size e)) e
  exact h pins _ σ H xs _ Q I1 (by simpa using rv) hw
/-- target = value -/
def tAsg (te : TE) (g : TG) : TS := fun D σ H => te σ H fun x H1 => g x σ H1 D.nx
/-- name = value -/
theorem ps_set {i : Nat} {x : Str} {e : Expr} {te : TE} {pos' : Pos} (hN : X.N.Nodup) (hi : X.N[i]? = some x) (hx : Loc X.env.scope x) (he : PE X e te) (hs : swapsWith e (some (.Name x pos')) pos.line X.env = pure false := by rfl) (hf : X.fn x = true ∨ X.env.scope.names.lookup x = some .local := by first | exact .inl rfl | exact .inr rfl | assumption) :
    PS X (.Assign [.Name x pos'] e pos) (tAsg te (gName i)) := by
  intro pins s σ H D I h
  refine wpAny_Assign_Name (thn (he pins s σ H _ I h) fun v s1 ⟨y, H1, I1, r1, q1⟩ => ?_) hs
  exact store_ok I1 hN hi hx r1 (fun s2 I2 => ⟨_, H1, I2, q1⟩) hf
end
/-! ### while -/
section
variable {X : Cx} {pos : Pos}
/-- the invariant W with its measure -/
def tWhile (c : TT) (tb : TS) : TS := fun D σ H => ∃ W : Nat → St → Hp → Prop, (∃ m, W m σ H) ∧ ∀ m σ H, W m σ H →
  c σ H fun b H1 => if b = true then ∃ N : St → Hp → Prop, (∀ σ' H', N σ' H' → ∃ m', m' < m ∧ W m' σ' H') ∧ tb { D with nx := N, ct := N, bk := D.nx } σ H1 else D.nx σ H1
theorem ps_while {c : Expr} {body : List Stmt} {tc : TT} {tb : TS} (hp : PassesOwn (model X.prog X.w) X.A X.env X.xe) (hc : PT X c tc) (hb : PSs X body tb) : PS X (.While c body [] pos) (tWhile tc tb) := by
  intro pins s σ H D I h
  obtain ⟨W, ⟨m0, w0⟩, turn⟩ := h
  refine wpAny_While (codeAny_whileLoop (fun n s' => ∃ σ' H', Inv X pins σ' H' s' ∧ W n σ' H') ?_ m0 ⟨σ, H, I, w0⟩)
  rintro n s1 ⟨σ1, H1, I1, w1⟩
  refine wpAny_passesOwn hp (thn (hc pins s1 σ1 H1 _ I1 (turn n σ1 H1 w1)) fun b s2 ⟨H2, I2, q2⟩ => ?_)
  cases b with
  | true =>
    obtain ⟨N, hN, q2⟩ := q2
    rw [if_pos rfl]
    refine wpAny_passesOwn hp (thn (hb pins s2 σ1 H2 _ I2 q2) fun f s3 q3 => ?_)
    cases f with
    | next =>
      obtain ⟨σ3, H3, I3, n3⟩ := q3
      obtain ⟨m', hm, w3⟩ := hN σ3 H3 n3
      exact ⟨m', hm, σ3, H3, I3, w3⟩
    | cont =>
      obtain ⟨σ3, H3, I3, n3⟩ := q3
      obtain ⟨m', hm, w3⟩ := hN σ3 H3 n3
      exact ⟨m', hm, σ3, H3, I3, w3⟩
    | brk => exact q3
    | ret v => exact q3
  | false =>
    rw [if_neg Bool.false_ne_true]
    exact wpAny_execs_nil ⟨σ1, H2, I2, q2⟩
end
/-! ### what a loop or a comprehension walks -/
/-- at turn i: it yields x (the heap may grow), or it stops -/
structure It where
  go : Nat → Hp → Prop
  yld : Nat → Hp → V → Hp → Prop
  stop : Nat → Hp → Prop
/-- the iterator's own objects may turn: they are not the frame's, not pinned, younger than the entry (or a comprehension's own) -/
def FpOk (X : Cx) (pins : List (Addr × Obj)) (H : Hp) (b : Addr) : Prop :=
  H b = none ∧ b ≠ X.env.locals ∧ b ∉ X.fs ∧ (b ∈ X.ex ∨ X.s_0.heap.objs.size ≤ b) ∧ (∀ x c, X.env.cells.lookup x = some c → c ≠ b) ∧ ∀ p ∈ X.pn ++ pins, p.1 ≠ b
theorem Inv.fpOk {X : Cx} {pins : List (Addr × Obj)} {σ : St} {H H' : Hp} {s : Shared} {b : Addr} (I : Inv X pins σ H s) (hb : s.heap.objs.size ≤ b) (hn : H' b = none) : FpOk X pins H' b := by
  refine ⟨hn, Nat.ne_of_gt (Nat.lt_of_lt_of_le I.lt hb), I.nofs hb, .inr (Nat.le_trans I.sz hb), fun x c e z => ?_, fun p hp z => ?_⟩
  · obtain ⟨v, q⟩ := I.cell x c e
    exact absurd (Nat.lt_of_lt_of_le q.lt (by rw [z]; exact hb)) (Nat.lt_irrefl _)
  · exact absurd (Nat.lt_of_lt_of_le (Heap.lt_size (I.pin p hp).1) (by rw [z]; exact hb)) (Nat.lt_irrefl _)
structure Turn (P : Program) (w : World) (K : PySem.W.Frag) (tg : Expr) (J : It) (fp : List Addr) (it : Addr) (tn : Nat → Heap → Prop) : Prop where
  mem : it ∈ fp
  obj : ∀ i h, tn i h → ∀ b ∈ fp, ∃ o, h.get? b = some o ∧ ∀ v, o.data ≠ .cell v
  keep : ∀ i h h', tn i h → (∀ b ∈ fp, ∀ o, h.get? b = some o → h'.get? b = some o) → tn i h'
  item : ∀ (X : Cx), X.prog = P → X.w = w → X.K = K → X.calm = true → ∀ (i : Nat) (pins : List (Addr × Obj)) (s : Shared) (σ : St) (H : Hp) (E : Value → Shared → Prop), Inv X pins σ H s → (∀ b ∈ fp, FpOk X pins H b) → tn i s.heap → J.go i H →
    wpAny (model P w) X.A (pyNext (.ref it)) (fun r s1 => ∃ u, r = some u ∧
      wpAny (model P w) X.A (letOwnedTupleGo tg (.ref it) u) (fun _ s2 => ∃ x H', Inv X pins σ H' s2 ∧ RelV x u ∧ J.yld i H x H' ∧ tn (i + 1) s2.heap ∧ ∀ b ∈ fp, H' b = none) E s1) E s
  done : ∀ (X : Cx), X.prog = P → X.w = w → X.K = K → X.calm = true → ∀ (i : Nat) (pins : List (Addr × Obj)) (s : Shared) (σ : St) (H : Hp) (E : Value → Shared → Prop), Inv X pins σ H s → (∀ b ∈ fp, FpOk X pins H b) → tn i s.heap → J.stop i H →
    wpAny (model P w) X.A (pyNext (.ref it)) (fun r s1 => r = none ∧ Inv X pins σ H s1) E s
  self : ∀ (A : Around) (i : Nat) (s : Shared) (Q : Value → Shared → Prop) (E : Value → Shared → Prop), tn i s.heap → Q (.ref it) s → wpAny (model P w) A (pyIter (.ref it)) Q E s
abbrev TI := St → Hp → (It → Hp → Prop) → Prop
/-- an iterator has come -/
def PIE (X : Cx) (pins : List (Addr × Obj)) (σ : St) (tg : Expr) (R : It → Hp → Prop) (itv : Value) (s2 : Shared) : Prop :=
  ∃ (it : Addr) (fp : List Addr) (tn : Nat → Heap → Prop) (J : It) (H' : Hp), itv = .ref it ∧ Inv X pins σ H' s2 ∧ Turn X.prog X.w X.K tg J fp it tn ∧ tn 0 s2.heap ∧ (∀ b ∈ fp, FpOk X pins H' b) ∧ R J H'
def PI (X : Cx) (tg iter : Expr) (wi : TI) : Prop :=
  ∀ (pins : List (Addr × Obj)) (s : Shared) (σ : St) (H : Hp) (R : It → Hp → Prop), Inv X pins σ H s → wi σ H R →
    wpAny (model X.prog X.w) X.A (eval iter X.env) (fun v s1 => wpAny (model X.prog X.w) X.A (pyIter v) (PIE X pins σ tg R) X.xe s1) X.xe s
/-- the step ahead of the store is nothing for an iterator that keeps no tuple -/
theorem go_of {M : Model} {A : Around} {E : Value → Shared → Prop} {s : Shared} {tg : Expr} {it : Addr} {u : Value} {o : Obj} {n : String} {vs : Array Value} {Q : Unit → Shared → Prop} (ho : s.heap.get? it = some o) (hc : o.cls = .type n) (hd : o.data = .fields vs)
    (hn : ["enumerate", "zip", "dict_itemiterator", "dict_reverseitemiterator", "odict_iterator", "itertools.zip_longest", "itertools.pairwise"].contains n = false) (hQ : Q () s) : wpAny M A (letOwnedTupleGo tg (.ref it) u) Q E s := by
  unfold letOwnedTupleGo
  cases tg <;> first
    | exact wpAny_pure hQ
    | (cases u <;> first
        | exact wpAny_pure hQ
        | (refine wpAny_bind (wpAny_load ho ?_)
           rw [hc, hd]
           show wpAny M A (if (["enumerate", "zip", "dict_itemiterator", "dict_reverseitemiterator", "odict_iterator", "itertools.zip_longest", "itertools.pairwise"].contains n && vs[0]? == some (rawInt _)) = true then _ else _) Q E s
           rw [if_neg (by intro h; rw [hn, Bool.false_and] at h; cases h)]
           exact wpAny_pure hQ))
/-- the list at a, as it stands at each turn (a loop may append to it) -/
def Itl (K : PySem.W.Frag) (a : Addr) : It :=
  ⟨fun i H => ∃ xs x, SqL K H a xs ∧ xs[i]? = some x, fun i H x H' => H' = H ∧ ∀ xs, SqL K H a xs → xs[i]? = some x, fun i H => ∃ xs, SqL K H a xs ∧ xs.length ≤ i⟩
def Itt (K : PySem.W.Frag) (a : Addr) : It :=
  ⟨fun i H => ∃ xs x, SqT K H a xs ∧ xs[i]? = some x, fun i H x H' => H' = H ∧ ∀ xs, SqT K H a xs → xs[i]? = some x, fun i H => ∃ xs, SqT K H a xs ∧ xs.length ≤ i⟩
/-- lo, lo + 1, .. (n of them) -/
def Itr (lo : Int) (n : Nat) : It := ⟨fun i _ => i < n, fun i H x H' => H' = H ∧ x = .int (lo + i), fun i _ => n ≤ i⟩
theorem turn_list {P : Program} {w : World} {K : PySem.W.Frag} {tg : Expr} (a it : Addr) : Turn P w K tg (Itl K a) [it] it (fun i h => h.IsListIter it a i) where
  mem := by simp
  obj := fun i h st b hb => by
    have e : b = it := by simpa using hb
    subst e
    obtain ⟨o, e, c, d⟩ := st
    exact ⟨o, e, fun v z => by rw [d] at z; cases z⟩
  keep := fun i h h' st k => st.at fun o e => k it (by simp) o e
  item := by
    intro X hP hw hK hc i pins s σ H E I hf st hg
    subst hP hw hK
    obtain ⟨xs, x, hq, hx⟩ := hg
    obtain ⟨its, rv, p, hz⟩ := I.list hq
    obtain ⟨u, hu, ru⟩ := rv.get hx
    obtain ⟨f0, f1, f2, f3, f4, f5⟩ := hf it (by simp)
    refine wpAny_pyNext_list_item st p.isList (x := u) (by simpa using hu) fun h' st' sb => ?_
    have I1 : Inv X pins σ H { s with heap := h' } := I.turned (t' := s.toks) (fun b o hb e => (sb.2 b hb).trans e) f0 f1 f3 f4 f5
    obtain ⟨o, e, c, d⟩ := id st'
    exact ⟨u, rfl, go_of (s := { s with heap := h' }) e c d (by decide) ⟨x, H, I1, ru, ⟨rfl, fun ys hy => by rw [I.list_inj hy hq]; exact hx⟩, st', fun b hb => (hf b hb).1⟩⟩
  done := by
    intro X hP hw hK hc i pins s σ H E I hf st hg
    subst hP hw hK
    obtain ⟨xs, hq, hx⟩ := hg
    obtain ⟨its, rv, p, hz⟩ := I.list hq
    obtain ⟨f0, f1, f2, f3, f4, f5⟩ := hf it (by simp)
    have hl := rv.length
    exact wpAny_pyNext_list_end (I.ok.hd hc) st p.isList (by simp; omega) fun h' eb => ⟨rfl, I.turned (t' := s.toks) (fun b o hb e => eb b o hb e) f0 f1 f3 f4 f5⟩
  self := fun _ _ _ _ _ st h => wpAny_pyIter_listiter st h
theorem turn_tuple {P : Program} {w : World} {K : PySem.W.Frag} {tg : Expr} (a it : Addr) : Turn P w K tg (Itt K a) [it] it (fun i h => h.IsTupleIter it a i) where
  mem := by simp
  obj := fun i h st b hb => by
    have e : b = it := by simpa using hb
    subst e
    obtain ⟨o, e, c, d⟩ := st
    exact ⟨o, e, fun v z => by rw [d] at z; cases z⟩
  keep := fun i h h' st k => st.at fun o e => k it (by simp) o e
  item := by
    intro X hP hw hK hc i pins s σ H E I hf st hg
    subst hP hw hK
    obtain ⟨xs, x, hq, hx⟩ := hg
    obtain ⟨its, rv, p, hz⟩ := I.tuple hq
    obtain ⟨u, hu, ru⟩ := rv.get hx
    obtain ⟨f0, f1, f2, f3, f4, f5⟩ := hf it (by simp)
    refine wpAny_pyNext_tuple_item st (show s.heap.IsTuple a its.toArray from p) (x := u) (by simpa using hu) fun h' st' sb => ?_
    have I1 : Inv X pins σ H { s with heap := h' } := I.turned (t' := s.toks) (fun b o hb e => (sb.2 b hb).trans e) f0 f1 f3 f4 f5
    obtain ⟨o, e, c, d⟩ := id st'
    exact ⟨u, rfl, go_of (s := { s with heap := h' }) e c d (by decide) ⟨x, H, I1, ru, ⟨rfl, fun ys hy => by rw [I.tuple_inj hy hq]; exact hx⟩, st', fun b hb => (hf b hb).1⟩⟩
  done := by
    intro X hP hw hK hc i pins s σ H E I hf st hg
    subst hP hw hK
    obtain ⟨xs, hq, hx⟩ := hg
    obtain ⟨its, rv, p, hz⟩ := I.tuple hq
    obtain ⟨f0, f1, f2, f3, f4, f5⟩ := hf it (by simp)
    have hl := rv.length
    exact wpAny_pyNext_tuple_end (I.ok.hd hc) st (show s.heap.IsTuple a its.toArray from p) (by simp; omega) fun h' eb => ⟨rfl, I.turned (t' := s.toks) (fun b o hb e => eb b o hb e) f0 f1 f3 f4 f5⟩
  self := fun _ _ _ _ _ st h => wpAny_pyIter_tupleiter st h
theorem turn_range {P : Program} {w : World} {K : PySem.W.Frag} {tg : Expr} (it : Addr) (lo : Int) (n : Nat) : Turn P w K tg (Itr lo n) [it] it (fun i h => IsRangeIter h it (lo + (i : Nat) * 1) ((n : Int) - (i : Nat)) 1) where
  mem := by simp
  obj := fun i h st b hb => by
    have e : b = it := by simpa using hb
    subst e
    exact ⟨_, st, fun v z => by
      have z' : Data.fields _ = Data.cell v := z
      cases z'⟩
  keep := fun i h h' st k => k it (by simp) _ st
  item := by
    intro X hP hw hK hc i pins s σ H E I hf st hg
    subst hP hw hK
    obtain ⟨f0, f1, f2, f3, f4, f5⟩ := hf it (by simp)
    have W := Walks.range (prog := X.prog) (w := X.w) (I.ok.hd hc) it lo 1 n
    refine W.item i s _ _ hg st fun v h' tk hv st' kk => ?_
    obtain ⟨t, rfl⟩ := hv
    have I1 : Inv X pins σ H { s with heap := h', toks := tk } := I.turned (fun b o hb e => kk b o (by simpa using hb) e) f0 f1 f3 f4 f5
    refine ⟨_, rfl, go_of (s := { s with heap := h', toks := tk }) (n := "range_iterator") st' rfl rfl (by decide) ⟨.int (lo + i), H, I1, ⟨t, ?_⟩, ⟨rfl, rfl⟩, st', fun b hb => (hf b hb).1⟩⟩
    rw [Int.mul_one]
  done := by
    intro X hP hw hK hc i pins s σ H E I hf st hg
    subst hP hw hK
    obtain ⟨f0, f1, f2, f3, f4, f5⟩ := hf it (by simp)
    exact wpAny_pyNext_range_end (I.ok.hd hc) st (by have : n ≤ i := hg; omega) fun h' eb => ⟨rfl, I.turned (t' := s.toks) (fun b o hb e => eb b o hb e) f0 f1 f3 f4 f5⟩
  self := fun _ _ _ _ _ st h => wpAny_pyIter_rangeiter st h
end L2
namespace L2
open PySem PySem.Spec PyProof.Rows
section
variable {X : Cx} {tg : Expr}
def iList (K : PySem.W.Frag) (tl : TE) : TI := fun σ H R => tl σ H fun x H1 => ∃ a, x = .ref a ∧ (∃ xs, SqL K H1 a xs) ∧ R (Itl K a) H1
def iTup (K : PySem.W.Frag) (tl : TE) : TI := fun σ H R => tl σ H fun x H1 => ∃ a, x = .ref a ∧ (∃ xs, SqT K H1 a xs) ∧ R (Itt K a) H1
theorem pi_list {l : Expr} {tl : TE} (hl : PE X l tl) : PI X tg l (iList X.K tl) := by
  intro pins s σ H R I h
  refine thn (hl pins s σ H _ I h) fun v s1 ⟨x, H1, I1, r1, q1⟩ => ?_
  obtain ⟨a, e, ⟨xs, hq⟩, q⟩ := q1
  subst e
  cases r1
  obtain ⟨its, rv, p, hz⟩ := I1.list hq
  refine wpAny_pyIter_list p.isList ?_
  refine ⟨s1.heap.objs.size, [s1.heap.objs.size], _, _, H1, rfl, I1.kept (t' := s1.toks) fun b o e => Heap.get?_push_of_some _ e, turn_list a _, ⟨_, Heap.get?_push_size _ rfl, rfl, rfl⟩, fun b hb => ?_, q⟩
  have e : b = s1.heap.objs.size := by simpa using hb
  subst e
  exact I1.fpOk (Nat.le_refl _) (I1.hok.fresh (Nat.le_refl _))
theorem pi_tup {l : Expr} {tl : TE} (hl : PE X l tl) : PI X tg l (iTup X.K tl) := by
  intro pins s σ H R I h
  refine thn (hl pins s σ H _ I h) fun v s1 ⟨x, H1, I1, r1, q1⟩ => ?_
  obtain ⟨a, e, ⟨xs, hq⟩, q⟩ := q1
  subst e
  cases r1
  obtain ⟨its, rv, p, hz⟩ := I1.tuple hq
  refine wpAny_pyIter_tuple (show s1.heap.IsTuple a its.toArray from p) ?_
  refine ⟨s1.heap.objs.size, [s1.heap.objs.size], _, _, H1, rfl, I1.kept (t' := s1.toks) fun b o e => Heap.get?_push_of_some _ e, turn_tuple a _, ⟨_, Heap.get?_push_size _ rfl, rfl, rfl⟩, fun b hb => ?_, q⟩
  have e : b = s1.heap.objs.size := by simpa using hb
  subst e
  exact I1.fpOk (Nat.le_refl _) (I1.hok.fresh (Nat.le_refl _))
/-- a range object just made, walked -/
theorem range_it {pins : List (Addr × Obj)} {σ : St} {H : Hp} {s : Shared} {R : It → Hp → Prop} {E : Value → Shared → Prop} {lo hi : Int} {t u v : Tok} {tk : Nat} (I : Inv X pins σ H s) (h1 : -(2 ^ 62) ≤ lo) (h2 : lo < 2 ^ 62) (h3 : -(2 ^ 62) ≤ hi) (h4 : hi < 2 ^ 62)
    (q : R (Itr lo (hi - lo).toNat) H) : wpAny (model X.prog X.w) X.A (pyIter (.ref s.heap.objs.size)) (PIE X pins σ tg R) E { s with heap := s.heap.push { cls := .type "range", data := .fields #[.int lo t, .int hi u, .int 1 v] }, toks := tk } := by
  refine wpAny_pyIter_range (IsRange.new ..) (small_one h1 h2 h3 h4) ?_
  have I1 : Inv X pins σ H { s with heap := s.heap.push { cls := .type "range", data := .fields #[.int lo t, .int hi u, .int 1 v] }, toks := tk } := I.kept fun b o e => Heap.get?_push_of_some _ e
  refine ⟨(s.heap.push { cls := .type "range", data := .fields #[.int lo t, .int hi u, .int 1 v] }).objs.size, [(s.heap.push { cls := .type "range", data := .fields #[.int lo t, .int hi u, .int 1 v] }).objs.size], _, _, H, rfl,
    I1.kept (t' := tk) fun b o e => Heap.get?_push_of_some _ e, turn_range _ lo (hi - lo).toNat, ?_, fun b hb => ?_, q⟩
  · have e1 : lo + ((0 : Nat) : Int) * 1 = lo := by simp
    have e2 : (((hi - lo).toNat : Nat) : Int) - ((0 : Nat) : Int) = Builtin.Range.rangeSize lo hi 1 := by rw [rangeSize_one]; split <;> omega
    show IsRangeIter _ _ (lo + ((0 : Nat) : Int) * 1) ((((hi - lo).toNat : Nat) : Int) - ((0 : Nat) : Int)) 1
    rw [e1, e2]
    exact Heap.get?_push_size _ rfl
  · have e : b = (s.heap.push { cls := .type "range", data := .fields #[.int lo t, .int hi u, .int 1 v] }).objs.size := by simpa using hb
    subst e
    exact I1.fpOk (Nat.le_refl _) (I1.hok.fresh (Nat.le_refl _))
def iRng1 (ta : TA) : TI := fun σ H R => ta σ H fun vs H1 => ∃ j : Int, vs = [.int j] ∧ -(2 ^ 62) ≤ j ∧ j < 2 ^ 62 ∧ R (Itr 0 j.toNat) H1
theorem pi_range1 {a : Expr} {ta : TA} {p pos : Pos} (hg : Gl X "range") (hm : X.mg "range" = none) (ha : PA X [a] ta) (hs : starEach [a] X.env = [(false, eval a X.env)] := by rfl) : PI X tg (.Call (.Name "range" p) [a] [] pos) (iRng1 ta) := by
  intro pins s σ H R I h
  refine Call_ (ld_blt I hg hm boot_range (PyProof.Rows.callWith_type1 (thn (ha pos pins s σ H _ I h) fun us s1 ⟨vs, H1, I1, r1, q1⟩ => ?_) hs rfl))
  obtain ⟨j, e, q1, q2, q⟩ := q1
  subst e
  cases r1 with
  | cons r rr =>
    cases rr
    obtain ⟨t, rfl⟩ := r
    exact call_range_1 (range_it I1 (by omega) (by omega) q1 q2 (by simpa using q))
/-! ### for -/
/-- W: the invariant by the turn and a measure; N: what the body is to reach -/
def tFor (wi : TI) (g : TG) (tb : TS) : TS := fun D σ H => wi σ H fun J H1 => ∃ W : Nat → Nat → St → Hp → Prop, (∃ m, W 0 m σ H1) ∧ ∀ i m σ H, W i m σ H →
  (J.stop i H ∧ D.nx σ H) ∨ (J.go i H ∧ ∃ N : St → Hp → Prop, (∀ σ' H', N σ' H' → ∃ m', m' < m ∧ W (i + 1) m' σ' H') ∧ ∀ x H', J.yld i H x H' → g x σ H' fun σ2 H2 => tb { D with nx := N, ct := N, bk := D.nx } σ2 H2)
/-- the records at fp as they stand -/
def pinsAt (fp : List Addr) (h : Heap) : List (Addr × Obj) := fp.filterMap fun b => (h.get? b).map fun o => (b, o)
theorem mem_pinsAt {fp : List Addr} {h : Heap} {b : Addr} {o : Obj} (hb : b ∈ fp) (e : h.get? b = some o) : (b, o) ∈ pinsAt fp h := List.mem_filterMap.mpr ⟨b, hb, by rw [e]; rfl⟩
theorem of_pinsAt {fp : List Addr} {h : Heap} {p : Addr × Obj} (hp : p ∈ pinsAt fp h) : p.1 ∈ fp ∧ h.get? p.1 = some p.2 := by
  obtain ⟨b, hb, e⟩ := List.mem_filterMap.mp hp
  cases q : h.get? b with
  | none => rw [q] at e; cases e
  | some o =>
    rw [q] at e
    have e' : (b, o) = p := Option.some.inj e
    subst e'
    exact ⟨hb, q⟩
theorem Inv.pinned {pins : List (Addr × Obj)} {σ : St} {H : Hp} {s : Shared} {fp : List Addr} (I : Inv X pins σ H s) (hf : ∀ b ∈ fp, FpOk X pins H b) (ho : ∀ b ∈ fp, ∃ o, s.heap.get? b = some o ∧ ∀ v, o.data ≠ .cell v) : Inv X (pins ++ pinsAt fp s.heap) σ H s :=
  I.pins_of fun p hp => (List.mem_append.mp hp).elim (fun z => I.pin p (List.mem_append_right _ z)) fun z => by
    obtain ⟨hb, e⟩ := of_pinsAt z
    obtain ⟨f0, f1, f2, _⟩ := hf p.1 hb
    obtain ⟨o, e', d⟩ := ho p.1 hb
    rw [e] at e'; cases e'
    exact ⟨e, f0, f1, f2, d⟩
theorem Inv.unpinned {pins pl : List (Addr × Obj)} {σ : St} {H : Hp} {s : Shared} (I : Inv X (pins ++ pl) σ H s) : Inv X pins σ H s := I.pins_of fun p hp => I.pin p (List.mem_append_right _ (List.mem_append_left _ hp))
theorem ps_for {iter : Expr} {body : List Stmt} {wi : TI} {g : TG} {tb : TS} {pos : Pos} (hp : PassesOwn (model X.prog X.w) X.A X.env X.xe) (hc : X.calm = true) (hi : PI X tg iter wi) (hg : PG X tg g) (hb : PSs X body tb)
    (hs : ∀ x, foldedSetIterable iter X.env x = pure x := by intro _; rfl) : PS X (.For tg iter body [] pos) (tFor wi g tb) := by
  intro pins s σ H D I h
  refine wpAny_For (thn (hi pins s σ H _ I h) fun v s1 h1 => thn h1 fun itv s2 h2 => ?_) hs
  obtain ⟨it, fp, tn, J, H2, e, I2, T, st2, f2, W, ⟨m0, w0⟩, turn⟩ := h2
  subst e
  -- what stays true of the iterator's objects through the loop
  have stat : ∀ {H' : Hp}, (∀ b ∈ fp, H' b = none) → ∀ b ∈ fp, FpOk X pins H' b := fun hn b hb => ⟨hn b hb, (f2 b hb).2⟩
  refine codeAny_forLoop_any (fun n s' => ∃ i σ' H', Inv X pins σ' H' s' ∧ tn i s'.heap ∧ (∀ b ∈ fp, H' b = none) ∧ W i n σ' H') ?_ m0 ⟨0, σ, H2, I2, st2, fun b hb => (f2 b hb).1, w0⟩
  rintro n s3 ⟨i, σ3, H3, I3, st3, fr3, w3⟩
  rcases turn i n σ3 H3 w3 with ⟨stop, qn⟩ | ⟨go, N, hN, step⟩
  · refine wpAny_passesOwn hp (thn (T.done X rfl rfl rfl hc i pins s3 σ3 H3 X.xe I3 (stat fr3) st3 stop) fun r s4 ⟨hr, I4⟩ => ?_)
    subst hr
    exact wpAny_execs_nil ⟨σ3, H3, I4, qn⟩
  · refine wpAny_passesOwn hp (thn (T.item X rfl rfl rfl hc i pins s3 σ3 H3 X.xe I3 (stat fr3) st3 go) fun r s4 ⟨u, hr, h4⟩ => ?_)
    subst hr
    refine wpAny_passesOwn hp (thn h4 fun _ s5 ⟨x, H5, I5, r5, y5, st5, fr5⟩ => ?_)
    have I5' := I5.pinned (stat fr5) (T.obj _ _ st5)
    refine wpAny_passesOwn hp (thn (hg _ s5 σ3 H5 x u _ I5' r5 (step x H5 y5)) fun _ s6 ⟨σ6, H6, I6, q6⟩ => ?_)
    refine wpAny_passesOwn hp (thn (hb _ s6 σ6 H6 _ I6 q6) fun f s7 q7 => ?_)
    have again : ∀ {σ7 : St} {H7 : Hp}, Inv X (pins ++ pinsAt fp s5.heap) σ7 H7 s7 → N σ7 H7 → ∃ m, m < n ∧ ∃ i σ' H', Inv X pins σ' H' s7 ∧ tn i s7.heap ∧ (∀ b ∈ fp, H' b = none) ∧ W i m σ' H' := fun {σ7 H7} I7 n7 => by
      obtain ⟨m', hm, w7⟩ := hN σ7 H7 n7
      refine ⟨m', hm, i + 1, σ7, H7, I7.unpinned, T.keep _ _ _ st5 fun b hb o e => (I7.pin (b, o) (List.mem_append_right _ (List.mem_append_right _ (mem_pinsAt hb e)))).1, fun b hb => ?_, w7⟩
      obtain ⟨o, e, d⟩ := T.obj _ _ st5 b hb
      exact (I7.pin (b, o) (List.mem_append_right _ (List.mem_append_right _ (mem_pinsAt hb e)))).2.1
    cases f with
    | next => obtain ⟨σ7, H7, I7, n7⟩ := q7; exact again I7 n7
    | cont => obtain ⟨σ7, H7, I7, n7⟩ := q7; exact again I7 n7
    | brk => obtain ⟨σ7, H7, I7, q7⟩ := q7; exact ⟨σ7, H7, I7.unpinned, q7⟩
    | ret v => obtain ⟨x7, σ7, H7, I7, r7, q7⟩ := q7; exact ⟨x7, σ7, H7, I7.unpinned, r7, q7⟩
end
/-! ### the forms one uses -/
/-- over a list that the body leaves as it is -/
theorem for_list {K : PySem.W.Frag} {a : Addr} {xs : List V} {g : TG} {tb : TS} {D : Ends} {σ : St} {H : Hp} (Pv : Nat → St → Hp → Prop) (h0 : Pv 0 σ H) (hl : ∀ i σ H, i ≤ xs.length → Pv i σ H → SqL K H a xs)
    (hs : ∀ i x σ H, xs[i]? = some x → Pv i σ H → g x σ H fun σ2 H2 => tb { D with nx := Pv (i + 1), ct := Pv (i + 1), bk := D.nx } σ2 H2) (hd : ∀ σ H, Pv xs.length σ H → D.nx σ H) :
    ∃ W : Nat → Nat → St → Hp → Prop, (∃ m, W 0 m σ H) ∧ ∀ i m σ H, W i m σ H →
      ((Itl K a).stop i H ∧ D.nx σ H) ∨ ((Itl K a).go i H ∧ ∃ N : St → Hp → Prop, (∀ σ' H', N σ' H' → ∃ m', m' < m ∧ W (i + 1) m' σ' H') ∧ ∀ x H', (Itl K a).yld i H x H' → g x σ H' fun σ2 H2 => tb { D with nx := N, ct := N, bk := D.nx } σ2 H2) := by
  refine ⟨fun i m σ H => m = xs.length - i ∧ i ≤ xs.length ∧ Pv i σ H, ⟨xs.length, by simp, Nat.zero_le _, h0⟩, ?_⟩
  rintro i m σ H ⟨rfl, hi, p⟩
  have q := hl i σ H hi p
  by_cases hlt : i < xs.length
  · refine .inr ⟨⟨xs, xs[i], q, by simp [hlt]⟩, Pv (i + 1), fun σ' H' p' => ⟨xs.length - (i + 1), by omega, rfl, hlt, p'⟩, fun x H' y => ?_⟩
    obtain ⟨e, y⟩ := y
    subst e
    exact hs i x σ _ (y xs q) p
  · have e : i = xs.length := by omega
    subst e
    exact .inl ⟨⟨xs, q, Nat.le_refl _⟩, hd σ H p⟩
theorem for_range {lo : Int} {n : Nat} {g : TG} {tb : TS} {D : Ends} {σ : St} {H : Hp} (Pv : Nat → St → Hp → Prop) (h0 : Pv 0 σ H)
    (hs : ∀ i σ H, i < n → Pv i σ H → g (.int (lo + i)) σ H fun σ2 H2 => tb { D with nx := Pv (i + 1), ct := Pv (i + 1), bk := D.nx } σ2 H2) (hd : ∀ σ H, Pv n σ H → D.nx σ H) :
    ∃ W : Nat → Nat → St → Hp → Prop, (∃ m, W 0 m σ H) ∧ ∀ i m σ H, W i m σ H →
      ((Itr lo n).stop i H ∧ D.nx σ H) ∨ ((Itr lo n).go i H ∧ ∃ N : St → Hp → Prop, (∀ σ' H', N σ' H' → ∃ m', m' < m ∧ W (i + 1) m' σ' H') ∧ ∀ x H', (Itr lo n).yld i H x H' → g x σ H' fun σ2 H2 => tb { D with nx := N, ct := N, bk := D.nx } σ2 H2) := by
  refine ⟨fun i m σ H => m = n - i ∧ i ≤ n ∧ Pv i σ H, ⟨n, by simp, Nat.zero_le _, h0⟩, ?_⟩
  rintro i m σ H ⟨rfl, hi, p⟩
  by_cases hlt : i < n
  · refine .inr ⟨hlt, Pv (i + 1), fun σ' H' p' => ⟨n - (i + 1), by omega, rfl, hlt, p'⟩, fun x H' y => ?_⟩
    obtain ⟨e, y⟩ := y
    subst e y
    exact hs i σ _ hlt p
  · have e : i = n := by omega
    subst e
    exact .inl ⟨Nat.le_refl _, hd σ H p⟩
end L2
namespace L2
open PySem PySem.Spec PyProof.Rows
abbrev R2 := V → V → Hp → VK → Prop
/-- a two-place operation on values: f is binaryOp op, inplaceOp op or compareOp op -/
def OpR (X : Cx) (f : Value → Value → Sem Value) (r : R2) : Prop :=
  ∀ (pins : List (Addr × Obj)) (s : Shared) (σ : St) (H : Hp) (x y : V) (v u : Value) (Q : VK), Inv X pins σ H s → RelV x v → RelV y u → r x y H Q →
    wpAny (model X.prog X.w) X.A (f v u) (EP X pins σ Q) X.xe s
/-- a one-place operation -/
def UnR (X : Cx) (f : Value → Sem Value) (r : V → Hp → VK → Prop) : Prop :=
  ∀ (pins : List (Addr × Obj)) (s : Shared) (σ : St) (H : Hp) (x : V) (v : Value) (Q : VK), Inv X pins σ H s → RelV x v → r x H Q →
    wpAny (model X.prog X.w) X.A (f v) (EP X pins σ Q) X.xe s
/-- a call of a value that is known (a builtin, a type) with values -/
def CallR (X : Cx) (f : Value) (r : List V → Hp → VK → Prop) : Prop :=
  ∀ (pins : List (Addr × Obj)) (s : Shared) (σ : St) (H : Hp) (xs : List V) (us : List Value) (Q : VK), Inv X pins σ H s → Vals xs us → r xs H Q →
    wpAny (model X.prog X.w) X.A (call f us) (EP X pins σ Q) X.xe s
def tOp (r : R2) (ta tb : TE) : TE := fun σ H Q => ta σ H fun x H1 => tb σ H1 fun y H2 => r x y H2 Q
def tUn (r : V → Hp → VK → Prop) (ta : TE) : TE := fun σ H Q => ta σ H fun x H1 => r x H1 Q
def rI0 (g : Int → Int → V) : R2 := fun x y H Q => ∃ i j, x = .int i ∧ y = .int j ∧ Q (g i j) H
def rU (g : Int → V) : V → Hp → VK → Prop := fun x H Q => ∃ i, x = .int i ∧ Q (g i) H
section
variable {X : Cx} {a b c : Expr} {ta tb tc : TE} {pos : Pos}
theorem binT (ha : PE X a ta) (hb : PE X b tb) {pins : List (Addr × Obj)} {s : Shared} {σ : St} {H : Hp} {R : V → V → Hp → Prop} (I : Inv X pins σ H s)
    (h : ta σ H fun x H1 => tb σ H1 fun y H2 => R x y H2) {Q : Value → Shared → Prop} {f : Value → Value → Sem Value}
    (hf : ∀ v u s2 x y H2, Inv X pins σ H2 s2 → RelV x v → RelV y u → R x y H2 → wpAny (model X.prog X.w) X.A (f v u) Q X.xe s2) :
    wpAny (model X.prog X.w) X.A (eval a X.env) (fun v s₁ => wpAny (model X.prog X.w) X.A (eval b X.env) (fun u s₂ => wpAny (model X.prog X.w) X.A (f v u) Q X.xe s₂) X.xe s₁) X.xe s := by
  refine thn (ha pins s σ H _ I h) fun v s1 ⟨x, H1, I1, r1, q1⟩ => ?_
  refine thn (hb pins s1 σ H1 _ I1 q1) fun u s2 ⟨y, H2, I2, r2, q2⟩ => ?_
  exact hf v u s2 x y H2 I2 r1 r2 q2
theorem pe_op {op : Operator} {r : R2} (ho : OpR X (binaryOp op) r) (ha : PE X a ta) (hb : PE X b tb) : PE X (.BinOp a op b pos) (tOp r ta tb) := by
  intro pins s σ H Q I h
  exact wpAny_BinOp (binT ha hb I h fun v u s2 x y H2 I2 rx ry q => ho pins s2 σ H2 x y v u Q I2 rx ry q)
theorem pe_un {op : UnaryOp} {r : V → Hp → VK → Prop} (ho : UnR X (unaryOp op) r) (ha : PE X a ta) : PE X (.UnaryOp op a pos) (tUn r ta) := by
  intro pins s σ H Q I h
  exact UnaryOp_ (thn (ha pins s σ H _ I h) fun v s1 ⟨x, H1, I1, r1, q1⟩ => ho pins s1 σ H1 x v Q I1 r1 q1)
/-! ### ints -/
theorem opI0 {f : Value → Value → Sem Value} {g : Int → Int → Int}
    (rule : ∀ (i j : Int) (t u : Tok) (s : Shared) (Q : Value → Shared → Prop) (E : Value → Shared → Prop), Q (.int (g i j) s.toks) { s with toks := s.toks + 1 } → wpAny (model X.prog X.w) X.A (f (.int i t) (.int j u)) Q E s) :
    OpR X f (rI0 fun i j => .int (g i j)) := by
  intro pins s σ H x y v u Q I rx ry h
  obtain ⟨i, j, rfl, rfl, q⟩ := h
  obtain ⟨t, rfl⟩ := rx
  obtain ⟨t', rfl⟩ := ry
  exact rule i j t t' s _ _ ⟨.int (g i j), H, I.tok _, ⟨_, rfl⟩, q⟩
theorem opB0 {f : Value → Value → Sem Value} {g : Int → Int → Bool}
    (rule : ∀ (i j : Int) (t u : Tok) (s : Shared) (Q : Value → Shared → Prop) (E : Value → Shared → Prop), Q (.bool (g i j)) s → wpAny (model X.prog X.w) X.A (f (.int i t) (.int j u)) Q E s) :
    OpR X f (rI0 fun i j => .bl (g i j)) := by
  intro pins s σ H x y v u Q I rx ry h
  obtain ⟨i, j, rfl, rfl, q⟩ := h
  obtain ⟨t, rfl⟩ := rx
  obtain ⟨t', rfl⟩ := ry
  exact rule i j t t' s _ _ ⟨.bl (g i j), H, I, rfl, q⟩
theorem op_add : OpR X (binaryOp .Add) (rI0 fun i j => .int (i + j)) := opI0 fun _ _ _ _ _ _ _ q => add_int q
theorem op_sub : OpR X (binaryOp .Sub) (rI0 fun i j => .int (i - j)) := opI0 fun _ _ _ _ _ _ _ q => sub_int q
theorem unI {f : Value → Sem Value} {g : Int → Int}
    (rule : ∀ (i : Int) (t : Tok) (s : Shared) (Q : Value → Shared → Prop) (E : Value → Shared → Prop), Q (.int (g i) s.toks) { s with toks := s.toks + 1 } → wpAny (model X.prog X.w) X.A (f (.int i t)) Q E s) :
    UnR X f (rU fun i => .int (g i)) := by
  intro pins s σ H x v Q I rx h
  obtain ⟨i, rfl, q⟩ := h
  obtain ⟨t, rfl⟩ := rx
  exact rule i t s _ _ ⟨.int (g i), H, I.tok _, ⟨_, rfl⟩, q⟩
theorem un_neg : UnR X (unaryOp .USub) (rU fun i => .int (-i)) := unI fun _ _ _ _ _ q => neg_int q
/-! ### bools among ints: n += (a < b) -/
end
/-! ### comparisons -/
/-- the scalars that == tells apart as data does -/
def scal : V → V → Bool
  | .non, .non => true | .non, .int _ => true | .int _, .non => true | .non, .bl _ => true | .bl _, .non => true | .non, .str _ => true | .str _, .non => true
  | .int _, .int _ => true | .bl _, .bl _ => true | .str _, .str _ => true | .byt _, .byt _ => true
  | .int _, .str _ => true | .str _, .int _ => true | .bl _, .str _ => true | .str _, .bl _ => true
  | _, _ => false
def rEq : R2 := fun x y H Q => scal x y = true ∧ Q (.bl (decide (x = y))) H
def rNe : R2 := fun x y H Q => scal x y = true ∧ Q (.bl (!decide (x = y))) H
theorem dec_int {i j : Int} : decide (V.int i = V.int j) = (i == j) := by
  rw [Bool.eq_iff_iff]
  simp
theorem dec_bl {i j : Bool} : decide (V.bl i = V.bl j) = (i == j) := by
  rw [Bool.eq_iff_iff]
  simp
theorem dec_str {i j : Str} : decide (V.str i = V.str j) = (i == j) := by
  rw [Bool.eq_iff_iff]
  simp
theorem dec_byt {i j : Array UInt8} : decide (V.byt i = V.byt j) = (i.toList == j.toList) := by
  rw [Bool.eq_iff_iff]
  cases i
  cases j
  simp
section
variable {X : Cx} {a b c : Expr} {ta tb tc : TE} {pos : Pos}
theorem fin_bl {pins : List (Addr × Obj)} {σ : St} {H : Hp} {s : Shared} {Q : VK} {k k' : Bool} (I : Inv X pins σ H s) (q : Q (.bl k) H) (e : k = k') : EP X pins σ Q (.bool k') s := by
  subst e
  exact ⟨.bl k, H, I, rfl, q⟩
theorem op_eq : OpR X (compareOp .Eq) rEq := by
  intro pins s σ H x y v u Q I rx ry h
  obtain ⟨hs, q⟩ := h
  cases x with
  | non =>
    cases rx
    cases y with
    | non => cases ry; exact PySem.EqNone.eq_none_none (fin_bl I q (by simp))
    | bl j => cases ry; exact PySem.EqNone.eq_none_bool (fin_bl I q (by simp))
    | int j => obtain ⟨t', rfl⟩ := ry; exact PySem.EqNone.eq_none_int (fin_bl I q (by simp))
    | str j => obtain ⟨t', rfl⟩ := ry; exact PySem.EqNone.eq_none_str (fin_bl I q (by simp))
    | _ => exact absurd (show false = true from hs) Bool.false_ne_true
  | bl i =>
    cases rx
    cases y with
    | non => cases ry; exact PySem.EqNone.eq_bool_none (fin_bl I q (by simp))
    | bl j => cases ry; exact eq_bool (fin_bl I q dec_bl)
    | str j => obtain ⟨t', rfl⟩ := ry; exact PySem.EqMixed.eq_bool_str (fin_bl I q (by simp))
    | _ => exact absurd (show false = true from hs) Bool.false_ne_true
  | int i =>
    obtain ⟨t, rfl⟩ := rx
    cases y with
    | non => cases ry; exact PySem.EqNone.eq_int_none (fin_bl I q (by simp))
    | int j => obtain ⟨t', rfl⟩ := ry; exact eq_int (fin_bl I q dec_int)
    | str j => obtain ⟨t', rfl⟩ := ry; exact PySem.EqMixed.eq_int_str (fin_bl I q (by simp))
    | _ => exact absurd (show false = true from hs) Bool.false_ne_true
  | str i =>
    obtain ⟨t, rfl⟩ := rx
    cases y with
    | non => cases ry; exact PySem.EqNone.eq_str_none (fin_bl I q (by simp))
    | bl j => cases ry; exact PySem.EqMixed.eq_str_bool (fin_bl I q (by simp))
    | int j => obtain ⟨t', rfl⟩ := ry; exact PySem.EqMixed.eq_str_int (fin_bl I q (by simp))
    | str j => obtain ⟨t', rfl⟩ := ry; exact eq_str (fin_bl I q dec_str)
    | _ => exact absurd (show false = true from hs) Bool.false_ne_true
  | byt i =>
    obtain ⟨t, rfl⟩ := rx
    cases y with
    | byt j => obtain ⟨t', rfl⟩ := ry; exact PySem.W.eq_bytes (fin_bl I q dec_byt)
    | _ => exact absurd (show false = true from hs) Bool.false_ne_true
  | _ => cases y <;> exact absurd (show false = true from hs) Bool.false_ne_true
theorem op_ne : OpR X (compareOp .NotEq) rNe := by
  intro pins s σ H x y v u Q I rx ry h
  obtain ⟨hs, q⟩ := h
  cases x with
  | non =>
    cases rx
    cases y with
    | non => cases ry; exact PySem.EqNone.ne_none_none (fin_bl I q (by simp))
    | bl j => cases ry; exact PySem.EqNone.ne_none_bool (fin_bl I q (by simp))
    | int j => obtain ⟨t', rfl⟩ := ry; exact PySem.EqNone.ne_none_int (fin_bl I q (by simp))
    | str j => obtain ⟨t', rfl⟩ := ry; exact PySem.EqNone.ne_none_str (fin_bl I q (by simp))
    | _ => exact absurd (show false = true from hs) Bool.false_ne_true
  | bl i =>
    cases rx
    cases y with
    | non => cases ry; exact PySem.EqNone.ne_bool_none (fin_bl I q (by simp))
    | bl j => cases ry; exact ne_bool (fin_bl I q (congrArg not dec_bl))
    | str j => obtain ⟨t', rfl⟩ := ry; exact PySem.EqMixed.ne_bool_str (fin_bl I q (by simp))
    | _ => exact absurd (show false = true from hs) Bool.false_ne_true
  | int i =>
    obtain ⟨t, rfl⟩ := rx
    cases y with
    | non => cases ry; exact PySem.EqNone.ne_int_none (fin_bl I q (by simp))
    | int j => obtain ⟨t', rfl⟩ := ry; exact ne_int (fin_bl I q (congrArg not dec_int))
    | str j => obtain ⟨t', rfl⟩ := ry; exact PySem.EqMixed.ne_int_str (fin_bl I q (by simp))
    | _ => exact absurd (show false = true from hs) Bool.false_ne_true
  | str i =>
    obtain ⟨t, rfl⟩ := rx
    cases y with
    | non => cases ry; exact PySem.EqNone.ne_str_none (fin_bl I q (by simp))
    | bl j => cases ry; exact PySem.EqMixed.ne_str_bool (fin_bl I q (by simp))
    | int j => obtain ⟨t', rfl⟩ := ry; exact PySem.EqMixed.ne_str_int (fin_bl I q (by simp))
    | str j => obtain ⟨t', rfl⟩ := ry; exact ne_str (fin_bl I q (congrArg not dec_str))
    | _ => exact absurd (show false = true from hs) Bool.false_ne_true
  | byt i =>
    obtain ⟨t, rfl⟩ := rx
    cases y with
    | byt j => obtain ⟨t', rfl⟩ := ry; exact PySem.W.ne_bytes (fin_bl I q (congrArg not dec_byt))
    | _ => exact absurd (show false = true from hs) Bool.false_ne_true
  | _ => cases y <;> exact absurd (show false = true from hs) Bool.false_ne_true
theorem op_lt : OpR X (compareOp .Lt) (rI0 fun i j => .bl (decide (i < j))) := opB0 fun _ _ _ _ _ _ _ q => lt_int q
theorem op_le : OpR X (compareOp .LtE) (rI0 fun i j => .bl (decide (i ≤ j))) := opB0 fun _ _ _ _ _ _ _ q => le_int q
theorem op_gt : OpR X (compareOp .Gt) (rI0 fun i j => .bl (decide (j < i))) := opB0 fun _ _ _ _ _ _ _ q => gt_int q
theorem op_ge : OpR X (compareOp .GtE) (rI0 fun i j => .bl (decide (j ≤ i))) := opB0 fun _ _ _ _ _ _ _ q => ge_int q
/-- is None, is not None: the right side a value none -/
theorem op_isN : OpR X (compareOp .Is) (fun x y H Q => y = .non ∧ Q (.bl (decide (x = .non))) H) := by
  intro pins s σ H x y v u Q I rx ry h
  obtain ⟨rfl, q⟩ := h
  cases ry
  refine is_none_gen (fin_bl I q ?_)
  cases x <;> first
    | (cases rx; rfl)
    | (obtain ⟨t, rfl⟩ := rx; rfl)
theorem op_notN : OpR X (compareOp .IsNot) (fun x y H Q => y = .non ∧ Q (.bl (!decide (x = .non))) H) := by
  intro pins s σ H x y v u Q I rx ry h
  obtain ⟨rfl, q⟩ := h
  cases ry
  refine isnot_none_gen (fin_bl I q ?_)
  cases x <;> first
    | (cases rx; rfl)
    | (obtain ⟨t, rfl⟩ := rx; rfl)
theorem nomark (b : Expr) {op : CmpOp} (h : op ≠ .In := by decide) (h2 : op ≠ .NotIn := by decide) : behindInMarks op b = false := by
  have e1 : (op == CmpOp.In) = false := by cases op <;> first | rfl | exact absurd rfl h
  have e2 : (op == CmpOp.NotIn) = false := by cases op <;> first | rfl | exact absurd rfl h2
  cases b <;> simp [behindInMarks, e1, e2]
/-- a comparison as a value; hm: nomark b, or (for in, not in) by with_unfolding_all rfl -/
theorem pe_cmpR {op : CmpOp} {r : R2} (ho : OpR X (compareOp op) r) (ha : PE X a ta) (hb : PE X b tb) (hm : behindInMarks op b = false) : PE X (.Compare a [op] [b] pos) (tOp r ta tb) := by
  intro pins s σ H Q I h
  exact wpAny_Compare1 (binT ha hb I h fun v u s2 x y H2 I2 rx ry q => ho pins s2 σ H2 x y v u Q I2 rx ry q) hm
/-- a reading of a value as a test -/
def tTest (t : TE) : TT := fun σ H Q => t σ H fun x H' => ∃ k, x = .bl k ∧ Q k H'
theorem pt_cmpR {op : CmpOp} {r : R2} (ho : OpR X (compareOp op) r) (ha : PE X a ta) (hb : PE X b tb) (hm : behindInMarks op b = false) : PT X (.Compare a [op] [b] pos) (tTest (tOp r ta tb)) := by
  intro pins s σ H Q I h
  refine wpAny_isTrue_Compare1 (thn (ha pins s σ H _ I h) fun v s1 ⟨x, H1, I1, r1, q1⟩ => thn (hb pins s1 σ H1 _ I1 q1) fun u s2 ⟨y, H2, I2, r2, q2⟩ =>
    thn (ho pins s2 σ H2 x y v u _ I2 r1 r2 q2) fun c s3 ⟨z, H3, I3, r3, k, e, q3⟩ => ?_) hm
  subst e
  cases r3
  exact wpAny_truthy_bool ⟨H3, I3, q3⟩
/-- a op1 b op2 c -/
def tChain (r r' : R2) (ta tb tc : TE) : TE := fun σ H Q => ta σ H fun x H1 => tb σ H1 fun y H2 => r x y H2 fun z H3 => ∃ k, z = .bl k ∧
  (if k = true then tc σ H3 fun w' H4 => r' y w' H4 Q else Q (.bl false) H3)
theorem pe_chain {op op' : CmpOp} {r r' : R2} (ho : OpR X (compareOp op) r) (ho' : OpR X (compareOp op') r') (ha : PE X a ta) (hb : PE X b tb) (hc : PE X c tc)
    (hm : lastMarks [op, op'] [b, c] = false := by with_unfolding_all rfl) : PE X (.Compare a [op, op'] [b, c] pos) (tChain r r' ta tb tc) := by
  intro pins s σ H Q I h
  refine Compare_chain (thn (ha pins s σ H _ I h) fun v s1 ⟨x, H1, I1, r1, q1⟩ => chain_link (thn (hb pins s1 σ H1 _ I1 q1) fun u s2 ⟨y, H2, I2, r2, q2⟩ =>
    thn (ho pins s2 σ H2 x y v u _ I2 r1 r2 q2) fun d s3 ⟨z, H3, I3, r3, k, e, q3⟩ => ?_)) hm
  subst e
  cases r3
  refine wpAny_truthy_bool ?_
  cases k with
  | false => exact ite_ff ⟨.bl false, H3, I3, rfl, q3⟩
  | true => exact ite_tt (chain_last (thn (hc pins s3 σ H3 _ I3 q3) fun w' s4 ⟨z', H4, I4, r4, q4⟩ => ho' pins s4 σ H4 y z' u w' Q I4 r2 r4 q4))
/-! ### truth -/
theorem line63 : (sizeLine : Nat) < 2 ^ 63 := by rw [sizeLine_eq]; decide
/-! ### strs and bytes -/
/-! ### scalar builtins, by CallR -/
theorem vals1 {x : V} {us : List Value} (r : Vals [x] us) : ∃ u, us = [u] ∧ RelV x u := by
  cases r with
  | cons r1 r2 => cases r2; exact ⟨_, rfl, r1⟩
end
end L2
namespace L2
open PySem PySem.Spec PyProof.Rows
/-! ### an instance, its attributes a map -/
structure ObjM (h : Heap) (x dx C : Addr) (mA : Str → Option Value) : Prop where
  obj : h.get? x = some (PySem.W.instObj C dx)
  ns : h.Ns1 dx mA
  ne : dx ≠ x
theorem lookIn_ns {h : Heap} {dx : Addr} {mA : Str → Option Value} (n : h.Ns1 dx mA) : ∃ od, h.get? dx = some od ∧ ∀ name, PySem.W.lookIn name od = some (mA name) := by
  obtain ⟨o, es, ep, ho, hd, hk, _, hm⟩ := n
  refine ⟨o, ho, fun name => ?_⟩
  have e := hm name
  unfold nsFind findBy at e
  rw [← Array.find?_toList] at e
  unfold PySem.W.lookIn
  rw [hd]
  dsimp only
  split
  · rename_i y q
    rw [q] at e
    exact congrArg some e
  · rename_i q
    rw [q] at e
    have a : es.toList.any (·.refKey) = false := by
      rw [List.any_eq_false]
      intro y hy
      obtain ⟨z, t, hkey⟩ := hk y (Array.mem_toList_iff.mp hy)
      simp [DictEntry.refKey, hkey]
    have a' : ¬ es.toList.any (·.refKey) = true := by rw [a]; exact Bool.false_ne_true
    rw [if_neg a']
    exact congrArg some e
theorem ObjM.look {h : Heap} {x dx C : Addr} {mA : Str → Option Value} (I : ObjM h x dx C mA) : ∃ od, PySem.W.InstAt h x (PySem.W.instObj C dx) C (some od) ∧ ∀ name, PySem.W.lookIn name od = some (mA name) :=
  let ⟨od, ho, hl⟩ := lookIn_ns I.ns
  ⟨od, ⟨I.obj, rfl, rfl, ho⟩, hl⟩
section
variable {prog : Program} {w : World} {A : Around} {E : Value → Shared → Prop} {s : Shared} {K : PySem.W.Frag} {x dx C f : Addr} {mA : Str → Option Value} {name : Str} {v : Value}
theorem get_map {expr : Bool} {Q : Value → Shared → Prop} (X : K.In s.heap) (I : ObjM s.heap x dx C mA) (hg : PySem.W.plainGet K C name = true) (hh : PySem.W.hasDictIn K C = true)
    (ha : PySem.W.findIn K (.ref C) name = some none) (hv : mA name = some v) (hv' : PySem.W.handedIn v = true) (h : Q v { s with toks := s.toks + 1 }) :
    wpAny (model prog w) A (getAttr (.ref x) name expr) Q E s := by
  obtain ⟨od, J, hl⟩ := I.look
  exact PySem.W.get_value X J (PySem.W.plainGet_of hg).1 (PySem.W.findObj_own hh ha rfl (by rw [hl, hv])) hv' h
theorem get_meth {pl : Sem Bool} {Q : Value × List Value → Shared → Prop} (X : K.In s.heap) (I : ObjM s.heap x dx C mA) (hg : PySem.W.plainGet K C name = true)
    (hf : PySem.W.findIn K (.ref C) name = some (some (.ref f))) (ht : PySem.W.isFn K (.ref f) = true) (hv : mA name = none) (h : Q (.ref f, [.ref x]) s) :
    wpAny (model prog w) A (getMethod (.ref x) name pl) Q E s := by
  obtain ⟨od, J, hl⟩ := I.look
  exact PySem.W.method_fn X J (PySem.W.plainGet_of hg).1 (PySem.W.plainGet_of hg).2 hf (beq_iff_eq.mp ht) (by show (PySem.W.lookIn name od).map (·.isSome) = some false; rw [hl, hv]; rfl) h
theorem set_map {ns : List Str} {Q : Unit → Shared → Prop} (X : K.In s.heap) (I : ObjM s.heap x dx C mA)
    (hs : PySem.W.findIn K (.ref C) "__setattr__" = some (some (.builtin "object.__setattr__"))) (hp : PySem.W.plainOver K C = true) (ht : PySem.W.takerIn K C name = some none) (hh : PySem.W.hasDictIn K C = true)
    (hw : PySem.Within mA ns) (hsz : ns.length ≤ sizeLine)
    (h : ∀ h', ObjM h' x dx C (fun y => if y = name then some v else mA y) → Heap.SameBut dx s.heap h' → Q () { s with heap := h', toks := s.toks + 2 }) :
    wpAny (model prog w) A (setAttr (.ref x) name v) Q E s := by
  obtain ⟨od, J, hl⟩ := I.look
  refine PySem.W.set_plain X J hs (PySem.W.osa_open (s := { s with toks := s.toks + 1 }) (r := none) X J hp ht fun b => ?_)
  obtain ⟨cd, hc, hd'⟩ := PySem.W.any_some hh
  have hx : s.heap.get? x = some ⟨.ref C, some dx, .plain, #[]⟩ := I.obj
  refine wpAny_bind (wpAny_pure (wpAny_bind (wpAny_bind (wpAny_loadPart hx (wpAny_bind (PySem.W.Looks.here (s := { s with toks := s.toks + 1 }) (PySem.W.looks_clsIn X hc) ?_))))))
  rw [hd']
  refine wpAny_pure (a := some dx) (wpAny_bind (wpAny_pure (wpAny_bind ?_)))
  refine wpAny_nsSet1 (s := { s with toks := s.toks + 1 }) I.ns fun h' hn2 hs2 => ?_
  obtain ⟨oD, esD, epD, hoD, hdD, hcD⟩ := hn2.count (PySem.Within.cons name v hw)
  refine wpAny_bind (wpAny_lookBehind hoD (by rw [hdD]; exact pastItsLine_dict (Nat.le_trans hcD (by rw [List.length_cons]; omega))) ?_)
  exact wpAny_pure (h _ ⟨(hs2.2 _ (Ne.symm I.ne)).trans I.obj, hn2, I.ne⟩ hs2)
/-- C(..): the dict at the heap's end, the instance behind it; then its __init__ -/
theorem make_map {R : Result → Shared → Prop} {vs : List Value} {kw : List (Str × Value)} (X : K.In s.heap) (hm : PySem.W.makesIn K C = true)
    (hi : PySem.W.findIn K (.ref C) "__init__" = some (some (.ref f))) (hf : PySem.W.typeIn K (.ref f) = some (.type "function"))
    (h : codeAny (model prog w) (A.under (.builtin "type.__call__" ⟨.ref C :: vs, kw⟩)) (.call (.ref f) ⟨.ref (s.heap.objs.size + 1) :: vs, kw⟩) (PySem.W.InitBack (s.heap.objs.size + 1) R)
      { s with heap := (s.heap.push PySem.W.emptyDict).push (PySem.W.instObj C s.heap.objs.size) }) :
    codeAny (model prog w) A (.call (.ref C) ⟨vs, kw⟩) R s := by
  obtain ⟨hh, g, d, t, os⟩ := s
  exact PySem.W.make_core (PySem.W.makes_of X hm) (PySem.W.looks_findIn X hi) (fun self => PySem.W.bind_fn X self hf) (.inl rfl) h
end
/-! ### the attributes as a list of pairs -/
def putF (f : Str) (v : V) : List (Str × V) → List (Str × V)
  | [] => [(f, v)]
  | (g, x) :: r => if g = f then (g, v) :: r else (g, x) :: putF f v r
theorem lookup_putF (f g : Str) (v : V) : ∀ fs : List (Str × V), (putF f v fs).lookup g = if g = f then some v else fs.lookup g
  | [] => by
    show List.lookup g [(f, v)] = _
    by_cases h : g = f
    · have hb : (g == f) = true := beq_iff_eq.mpr h
      simp only [List.lookup, hb, if_pos h]
    · have hb : (g == f) = false := beq_eq_false_iff_ne.mpr h
      simp only [List.lookup, hb, if_neg h]
  | (k, x) :: r => by
    have ih := lookup_putF f g v r
    rw [show putF f v ((k, x) :: r) = (if k = f then (k, v) :: r else (k, x) :: putF f v r) from rfl]
    by_cases hk : k = f
    · rw [if_pos hk]
      by_cases h : g = k
      · have hb : (g == k) = true := beq_iff_eq.mpr h
        simp only [List.lookup, hb, if_pos (h.trans hk)]
      · have hb : (g == k) = false := beq_eq_false_iff_ne.mpr h
        simp only [List.lookup, hb, if_neg (fun e : g = f => h (e.trans hk.symm))]
    · rw [if_neg hk]
      by_cases h : g = k
      · have hb : (g == k) = true := beq_iff_eq.mpr h
        simp only [List.lookup, hb, if_neg (fun e : g = f => hk (h.symm.trans e))]
      · have hb : (g == k) = false := beq_eq_false_iff_ne.mpr h
        simp only [List.lookup, hb]
        exact ih
theorem keys_putF (f : Str) (v : V) : ∀ fs : List (Str × V), f ∈ (putF f v fs).map (·.1) ∧ ∀ g, g ∈ fs.map (·.1) → g ∈ (putF f v fs).map (·.1)
  | [] => ⟨by simp [putF], fun g h => by simp at h⟩
  | (k, x) :: r => by
    obtain ⟨i1, i2⟩ := keys_putF f v r
    rw [show putF f v ((k, x) :: r) = (if k = f then (k, v) :: r else (k, x) :: putF f v r) from rfl]
    by_cases hk : k = f
    · rw [if_pos hk]
      subst hk
      exact ⟨by simp, fun g h => by simpa using h⟩
    · rw [if_neg hk]
      refine ⟨?_, fun g h => ?_⟩
      · rw [List.map_cons]
        exact List.mem_cons_of_mem _ i1
      · rw [List.map_cons] at h ⊢
        rcases List.mem_cons.mp h with e | e
        · exact List.mem_cons.mpr (.inl e)
        · exact List.mem_cons_of_mem _ (i2 g e)
theorem length_putF (f : Str) (v : V) : ∀ fs : List (Str × V), (putF f v fs).length ≤ fs.length + 1
  | [] => by simp [putF]
  | (k, x) :: r => by
    have ih := length_putF f v r
    rw [show putF f v ((k, x) :: r) = (if k = f then (k, v) :: r else (k, x) :: putF f v r) from rfl]
    by_cases hk : k = f
    · rw [if_pos hk, List.length_cons, List.length_cons]; omega
    · rw [if_neg hk, List.length_cons, List.length_cons]; omega
theorem RelO.some_of {v : V} {o : Option Value} (r : RelO (some v) o) : ∃ u, o = some u ∧ RelV v u := by
  cases o with
  | none => exact (show False from r).elim
  | some u => exact ⟨u, rfl, r⟩
theorem RelO.none_of {o : Option Value} (r : RelO none o) : o = none := by
  cases o with
  | none => rfl
  | some u => exact (show False from r).elim
theorem handed_of {v : V} {u : Value} (r : RelV v u) : PySem.W.handedIn u = true := by
  cases v with
  | non => cases (show u = Value.none from r); rfl
  | bl b => cases (show u = Value.bool b from r); rfl
  | int i => obtain ⟨t, e⟩ := (show ∃ t, u = Value.int i t from r); cases e; rfl
  | str x => obtain ⟨t, e⟩ := (show ∃ t, u = Value.str x t from r); cases e; rfl
  | byt b => obtain ⟨t, e⟩ := (show ∃ t, u = Value.bytes b t from r); cases e; rfl
  | flt b => obtain ⟨t, e⟩ := (show ∃ t, u = Value.float b t from r); cases e; rfl
  | ref a => cases (show u = Value.ref a from r); rfl
  | ty n => cases (show u = Value.type n from r); rfl
section
variable {P : Program} {w : World} {H H' : Hp} {h h' : Heap} {a C dx : Addr} {fs fs' : List (Str × V)}
theorem ins_get (hok : HOk P w H h) (e : H a = some (.ins C dx fs)) : ∃ mA, ObjM h a dx C mA ∧ (∀ f, RelO (fs.lookup f) (mA f)) ∧ PySem.Within mA (fs.map (·.1)) ∧ fs.length ≤ 1000 ∧ H dx = some (.own a) := by
  obtain ⟨d, z, ne, ob, mA, n, r, q⟩ := (show ObjOk P w H h a (.ins C dx fs) from hok a _ e)
  exact ⟨mA, ⟨ob, n, ne⟩, r, q, z, d⟩
end
/-! ### what of the text a class must have -/
structure Cls (K : PySem.W.Frag) (C : Addr) : Prop where
  pg : PySem.W.plainGet K C Str.empty = true
  hd : PySem.W.hasDictIn K C = true
  po : PySem.W.plainOver K C = true
  sa : PySem.W.findIn K (.ref C) "__setattr__" = some (some (.builtin "object.__setattr__"))
theorem Cls.get {K : PySem.W.Frag} {C : Addr} (c : Cls K C) (f : Str) : PySem.W.plainGet K C f = true := c.pg
/-- no class of it has the name -/
def NoAttr (K : PySem.W.Frag) (C : Addr) (f : Str) : Prop := PySem.W.findIn K (.ref C) f = some none
theorem NoAttr.taker {K : PySem.W.Frag} {C : Addr} {f : Str} (n : NoAttr K C f) : PySem.W.takerIn K C f = some none := by
  unfold PySem.W.takerIn
  rw [show PySem.W.findIn K (.ref C) f = some none from n]
  rfl
/-- a method: a plain def of the class or of one above it -/
structure Meth (K : PySem.W.Frag) (C : Addr) (m : Str) (f : Addr) : Prop where
  at_ : PySem.W.findIn K (.ref C) m = some (some (.ref f))
  fn : PySem.W.isFn K (.ref f) = true
  kp : PySem.W.keepIn K (.ref f) = true
section
variable {X : Cx} {pins : List (Addr × Obj)} {σ : St} {H : Hp} {s : Shared} {a C dx : Addr} {fs : List (Str × V)} {f : Str} {v : V} {A : Around} {E : Value → Shared → Prop}
theorem getattr_ok {b : Bool} {Q : Value → Shared → Prop} (I : Inv X pins σ H s) (e : H a = some (.ins C dx fs)) (c : Cls X.K C) (n : NoAttr X.K C f) (l : fs.lookup f = some v)
    (h : ∀ u s', Inv X pins σ H s' → RelV v u → Q u s') : wpAny (model X.prog X.w) A (getAttr (.ref a) f b) Q E s := by
  obtain ⟨mA, O, r, _, _, _⟩ := ins_get I.hok e
  obtain ⟨u, hu, ru⟩ := RelO.some_of (v := v) (o := mA f) (by rw [← l]; exact r f)
  exact get_map I.kIn O (c.get f) c.hd n hu (handed_of ru) (h u _ (I.tok _) ru)
theorem getmeth_ok {m : Str} {g : Addr} {pl : Sem Bool} {Q : Value × List Value → Shared → Prop} (I : Inv X pins σ H s) (e : H a = some (.ins C dx fs)) (c : Cls X.K C) (k : Meth X.K C m g) (l : fs.lookup m = none)
    (h : Q (.ref g, [.ref a]) s) : wpAny (model X.prog X.w) A (getMethod (.ref a) m pl) Q E s := by
  obtain ⟨mA, O, r, _, _, _⟩ := ins_get I.hok e
  have hn : mA m = none := RelO.none_of (by rw [← l]; exact r m)
  exact get_meth I.kIn O (c.get m) k.at_ k.fn hn h
theorem setattr_ok {y : V} {u : Value} {Q : Unit → Shared → Prop} (I : Inv X pins σ H s) (e : H a = some (.ins C dx fs)) (c : Cls X.K C) (n : NoAttr X.K C f) (hl : fs.length < 1000) (ry : RelV y u)
    (h : ∀ s', Inv X pins σ (upd H a (.ins C dx (putF f y fs))) s' → Q () s') : wpAny (model X.prog X.w) A (setAttr (.ref a) f u) Q E s := by
  obtain ⟨mA, O, r, wi, _, ho⟩ := ins_get I.hok e
  have hz : (fs.map (·.1)).length ≤ sizeLine := by rw [List.length_map, sizeLine_eq]; omega
  refine set_map I.kIn O c.sa c.po n.taker c.hd wi hz fun h' O' sb => h _ ?_
  have hd : ∃ o, h'.get? dx = some o := let ⟨o, _, _, e', _⟩ := O'.ns; ⟨o, e'⟩
  refine I.write (x := a) (e := dx) (by rw [e]; exact True.intro) (.inr ho) (fun b q hb z => (sb.2 b hb).trans z) hd ?_
  refine ⟨by rw [upd_ne O.ne]; exact ho, ?_, O.ne, O'.obj, _, O'.ns, fun g => ?_, fun g hg => ?_⟩
  · have := length_putF f y fs; omega
  · show RelO ((putF f y fs).lookup g) (if g = f then some u else mA g)
    rw [lookup_putF]
    by_cases q : g = f
    · rw [if_pos q, if_pos q]; exact ry
    · rw [if_neg q, if_neg q]; exact r g
  · by_cases q : g = f
    · rw [q]; exact (keys_putF f y fs).1
    · refine (keys_putF f y fs).2 g (wi g fun z => hg ?_)
      show (if g = f then some u else mA g) = none
      rw [if_neg q]; exact z
/-- a new instance, tracked, without attributes -/
theorem Inv.made (I : Inv X pins σ H s) : Inv X pins σ (upd (upd H s.heap.objs.size (.own (s.heap.objs.size + 1))) (s.heap.objs.size + 1) (.ins C s.heap.objs.size []))
    { s with heap := (s.heap.push PySem.W.emptyDict).push (PySem.W.instObj C s.heap.objs.size) } := by
  have e1 : (s.heap.push PySem.W.emptyDict).get? s.heap.objs.size = some PySem.W.emptyDict := Heap.get?_push_size s.heap rfl
  have e2 : ((s.heap.push PySem.W.emptyDict).push (PySem.W.instObj C s.heap.objs.size)).get? (s.heap.objs.size + 1) = some (PySem.W.instObj C s.heap.objs.size) := by
    have := Heap.get?_push_size (s.heap.push PySem.W.emptyDict) (o := PySem.W.instObj C s.heap.objs.size) rfl
    rwa [Heap.size_push] at this
  have e3 : (s.heap.push PySem.W.emptyDict).Ns s.heap.objs.size (fun _ => none) := ⟨PySem.W.emptyDict, #[], _, e1, rfl, (fun e he => absurd he (by simp)), fun _ => rfl⟩
  have I1 := I.laid (a := s.heap.objs.size) (o := .own (s.heap.objs.size + 1)) (h' := s.heap.push PySem.W.emptyDict) (t' := s.toks) (fun b u q => Heap.get?_push_of_some _ q) (Nat.le_refl _) ⟨_, e1⟩
  refine I1.laid (a := s.heap.objs.size + 1) (o := .ins C s.heap.objs.size []) (t' := s.toks) (fun b u q => Heap.get?_push_of_some _ q) (Nat.le_of_eq (Heap.size_push _ _)) ?_
  have ne : s.heap.objs.size ≠ s.heap.objs.size + 1 := Nat.ne_of_lt (Nat.lt_succ_self _)
  refine ⟨by rw [upd_ne ne, upd_same], Nat.zero_le _, ne, e2, fun _ => none, (Heap.Ns1.of_empty e3).at fun o q => Heap.get?_push_of_some _ q, fun _ => True.intro, fun y hy => absurd rfl hy⟩
/-- e.f where nothing but the object is asked: through attributeBase (super) and the last hold -/
theorem attr_of {prog : Program} {w : World} {env : Env} {e : Expr} {f : Str} {pos : Pos} {s : Shared} {Q : Value → Shared → Prop} (hb : attributeBase e f env (eval e env) = eval e env)
    (h : wpAny (model prog w) A (eval e env) (fun o s₁ => wpAny (model prog w) A (getAttr o f true) Q E s₁) E s) : wpAny (model prog w) A (eval (.Attribute e f pos) env) Q E s :=
  Attribute_any_ h (by rw [arm_eval_Attribute, hb])
end
/-! ### readings and rules -/
/-- e.f, an attribute of the instance -/
def tFld (K : PySem.W.Frag) (ta : TE) (f : Str) : TE := fun σ H Q => ta σ H fun x H1 => ∃ a C dx fs v, x = .ref a ∧ H1 a = some (.ins C dx fs) ∧ Cls K C ∧ NoAttr K C f ∧ fs.lookup f = some v ∧ Q v H1
/-- e.f = value -/
def sFld (K : PySem.W.Frag) (ta tv : TE) (f : Str) : TS := fun D σ H => tv σ H fun y H1 => ta σ H1 fun x H2 => ∃ a C dx fs, x = .ref a ∧ H2 a = some (.ins C dx fs) ∧ Cls K C ∧ NoAttr K C f ∧ fs.length < 1000 ∧
  D.nx σ (upd H2 a (.ins C dx (putF f y fs)))
section
variable {X : Cx} {o e value : Expr} {f : Str} {pos pos' tpos : Pos} {ta tv : TE}
theorem pe_fld (he : PE X e ta) (hb : attributeBase e f X.env (eval e X.env) = eval e X.env) : PE X (.Attribute e f pos) (tFld X.K ta f) := by
  intro pins s σ H Q I h
  refine attr_of hb (thn (he pins s σ H _ I h) fun u s1 ⟨x, H1, I1, rx, a, C, dx, fs, v, ex, ea, c, n, l, q⟩ => ?_)
  subst ex
  obtain rfl : u = Value.ref a := rx
  exact getattr_ok I1 ea c n l fun u' s2 I2 ru => ⟨v, H1, I2, ru, q⟩
theorem ps_fld (ha : PE X o ta) (hv : PE X value tv) (hs : swapsWith value (some (.Attribute o f pos')) pos.line X.env = pure false) : PS X (.Assign [.Attribute o f pos'] value pos) (sFld X.K ta tv f) := by
  intro pins s σ H D I h
  refine plainObj_wpAny_Assign_Attribute (thn (hv pins s σ H _ I h) fun u s1 ⟨y, H1, I1, ry, q⟩ => thn (ha pins s1 σ H1 _ I1 q) fun ov s2 ⟨x, H2, I2, rx, a, C, dx, fs, ex, ea, c, n, l, q2⟩ => ?_) hs
  subst ex
  obtain rfl : ov = Value.ref a := rx
  exact setattr_ok I2 ea c n l ry fun s3 I3 => ⟨σ, _, I3, q2⟩
/-- what is between an instance and its method: the tree of a method call -/
theorem methcall_of {pl : Sem Bool} {m : Str} {apos : Pos} {args : List Expr} {pins : List (Addr × Obj)} {s : Shared} {σ : St} {H : Hp} {Q : Value → Shared → Prop} {te : TE} (he : PE X e te) (I : Inv X pins σ H s)
    (h : te σ H fun x H1 => ∃ a C dx fs g, x = .ref a ∧ H1 a = some (.ins C dx fs) ∧ Cls X.K C ∧ Meth X.K C m g ∧ fs.lookup m = none ∧
      ∀ s1, Inv X pins σ H1 s1 → wpAny (model X.prog X.w) X.A (callWith pos (.ref g) [.ref a] (backTo pos (starEach args X.env)) (backToKw pos (keywordEach [] X.env))) Q X.xe s1)
    (ht : eval (.Call (.Attribute e m apos) args [] pos) X.env = (do
      let ov ← eval e X.env
      standAt apos.atName
      let (f, first) ← holding [ov] (getMethod ov m pl)
      callWith pos f first (backTo pos (starEach args X.env)) (backToKw pos (keywordEach [] X.env)))) :
    wpAny (model X.prog X.w) X.A (eval (.Call (.Attribute e m apos) args [] pos) X.env) Q X.xe s := by
  refine PySem.W.methodCall_KW (pl := pl) (thn (he pins s σ H _ I h) fun u s1 ⟨x, H1, I1, rx, a, C, dx, fs, g, ex, ea, c, k, l, q⟩ => ?_) ht
  subst ex
  obtain rfl : u = Value.ref a := rx
  exact getmeth_ok I1 ea c k l (q s1 I1)
end
/-! ### isinstance -/
section
variable {X : Cx} {pins : List (Addr × Obj)} {σ : St} {H : Hp} {s : Shared} {A : Around} {E : Value → Shared → Prop} {Q : Value → Shared → Prop} {c : Value} {b : Bool}
end
end L2
namespace L2
open PySem PySem.Spec PyProof.Rows
/-! ### room -/
structure Room (k : Nat) (A : Around) : Prop where
  hd : A.handled = none
  dp : A.depth + 3 * k + 5 < recursionLimit
  un : A.units + 16 * k + 200 < cLine
theorem Room.mono {j k : Nat} {A : Around} (r : Room k A) (h : j ≤ k) : Room j A := ⟨r.hd, by have := r.dp; omega, by have := r.un; omega⟩
theorem Room.deeper {k : Nat} {A : Around} (r : Room (k + 1) A) (env : Env) : Room k (A.deeper env) :=
  ⟨r.hd, by have := r.dp; show A.depth + 1 + 3 * k + 5 < _; omega, by have := r.un; show A.units + 3 + 16 * k + 200 < _; omega⟩
theorem make_depth {A : Around} {C : Addr} {us : List Value} {kw : List (Str × Value)} : (A.under (.builtin "type.__call__" ⟨.ref C :: us, kw⟩)).depth = A.depth + 1 := by
  first | rfl | simp [Around.under, Code.weight, Code.isCreation, Code.isGuard, Code.isCaller, Code.frames, Code.isFrame, guardIds]
theorem make_units {A : Around} {C : Addr} {us : List Value} {kw : List (Str × Value)} : (A.under (.builtin "type.__call__" ⟨.ref C :: us, kw⟩)).units = A.units + 1 := by
  first | rfl | simp [Around.under, Code.cUnits, Code.frames, Code.isFrame]
theorem Room.make {k : Nat} {A : Around} (r : Room (k + 1) A) (C : Addr) (us : List Value) (kw : List (Str × Value)) : Room k (A.under (.builtin "type.__call__" ⟨.ref C :: us, kw⟩)) :=
  ⟨r.hd, by have := r.dp; rw [make_depth]; omega, by have := r.un; rw [make_units]; omega⟩
theorem Room.depth {k : Nat} {A : Around} (r : Room k A) : A.depth < recursionLimit := by have := r.dp; omega
theorem Room.units {k : Nat} {A : Around} (r : Room k A) : A.units + 64 < cLine := by have := r.un; omega
/-! ### argument lists and displays -/
def tNil : TA := fun _ H Q => Q [] H
def tCons (ta : TE) (tr : TA) : TA := fun σ H Q => ta σ H fun x H1 => tr σ H1 fun xs H2 => Q (x :: xs) H2
section
variable {X : Cx} {e : Expr} {es : List Expr} {te : TE} {t : TA} {pos : Pos}
theorem pa_nil : PA X [] tNil := fun _ _ _ _ H Q I h => Calls.spliced_nil ⟨[], H, I, .nil, h⟩
theorem pa_cons (ha : PE X e te) (hr : PA X es t) (hs : starEach (e :: es) X.env = (false, eval e X.env) :: starEach es X.env := by rfl) : PA X (e :: es) (tCons te t) := by
  intro pos pins s σ H Q I h
  rw [hs]
  show wpAny _ _ (spliced ((false, eval e X.env) :: backTo pos (starEach es X.env))) _ _ s
  refine Calls.spliced_cons (thn (ha pins s σ H _ I h) fun u s1 ⟨x, H1, I1, r1, q1⟩ => ?_)
  exact thn (hr pos pins s1 σ H1 _ I1 q1) fun us s2 ⟨xs, H2, I2, r2, q2⟩ => ⟨x :: xs, H2, I2, .cons r1 r2, q2⟩
/-- a tuple, a list of written items -/
def tTup (t : TA) : TE := fun σ H Q => t σ H fun xs H1 => xs.length ≤ sizeLine ∧ ∀ p, H1 p = none → Q (.ref p) (upd H1 p (.tup xs))
def tLst (t : TA) : TE := fun σ H Q => t σ H fun xs H1 => xs.length ≤ sizeLine ∧ ∀ p, H1 p = none → Q (.ref p) (upd H1 p (.lst xs))
theorem pe_tup {x1} (h : PA X es t) : PE X (.Tuple es x1 pos) (tTup t) := by
  intro pins s σ H Q I hq
  refine wpAny_Tuple_spliced (thn (h pos pins s σ H _ I hq) fun us s1 ⟨xs, H1, I1, r, z, q⟩ => ⟨by rw [← r.length]; exact z, ?_⟩)
  have hf : H1 s1.heap.objs.size = none := I1.hok.fresh (Nat.le_refl _)
  refine ⟨.ref s1.heap.objs.size, upd H1 s1.heap.objs.size (.tup xs), I1.laid (t' := s1.toks) (fun b u e => Heap.get?_push_of_some _ e) (Nat.le_refl _) ?_, rfl, q _ hf⟩
  exact ⟨z, us, r, ⟨_, Heap.get?_push_size _ rfl, rfl, _, rfl⟩⟩
theorem pe_lst (h : PA X es t) : PE X (.List es pos) (tLst t) := by
  intro pins s σ H Q I hq
  refine wpAny_List_spliced (thn (h pos pins s σ H _ I hq) fun us s1 ⟨xs, H1, I1, r, z, q⟩ => ⟨by rw [← r.length]; exact z, ?_⟩)
  have hf : H1 s1.heap.objs.size = none := I1.hok.fresh (Nat.le_refl _)
  refine ⟨.ref s1.heap.objs.size, upd H1 s1.heap.objs.size (.lst xs), I1.laid (t' := s1.toks) (fun b u e => Heap.get?_push_of_some _ e) (Nat.le_refl _) ?_, rfl, q _ hf⟩
  exact ⟨z, us, 0, r, Heap.get?_push_size _ rfl⟩
end
/-! ### what a def promises -/
/-- a def's promise: the bound arguments in the parameters' order, the heap, the wanted end, the wanted exception -/
abbrev Sp := List V → Hp → VK → XK → Prop
/-- how an exception lies behind a call (file 08 gives it): the callers' frames, abstract heap and state ahead of the call, the wish, the exception, the state -/
abbrev CXT := List Env → Hp → Shared → XK → Value → Shared → Prop
/-- the state at a call -/
structure Env0 (P : Program) (w : World) (K : PySem.W.Frag) (mg : Str → Option Value) (base : Heap) (A : Around) (outer : List Env) (s : Shared) (H : Hp) : Prop where
  frames : A.frames = some outer
  mod : Mod K mg base
  bs : ∀ b o, base.get? b = some o → s.heap.get? b = some o ∧ H b = none
  bsz : base.objs.size ≤ s.heap.objs.size
  funs : s.heap.FunFrames base outer
  frf : ∀ b ∈ frs outer, H b = none
  hok : HOk P w H s.heap
  bare : AllBare s.gens
/-- a call's end -/
def CE (outer : List Env) (P : Program) (w : World) (H : Hp) (s : Shared) (Q : VK) (u : Value) (s' : Shared) : Prop :=
  ∃ v H', s'.os = s.os ∧ AllBare s'.gens ∧ Un (frs outer) [] H H' s.heap s'.heap ∧ HOk P w H' s'.heap ∧ RelV v u ∧ Q v H'
def CR (CX : CXT) (outer : List Env) (P : Program) (w : World) (H : Hp) (s : Shared) (Q : VK) (E : XK) (r : Result) (s' : Shared) : Prop :=
  match r with
  | .ok (.ret u) => CE outer P w H s Q u s'
  | .ok _ => False
  | .error e => CX outer H s E e s'
structure FnOk (P : Program) (w : World) (K : PySem.W.Frag) (mg : Str → Option Value) (base : Heap) (CX : CXT) (k : Nat) (f : Addr) (fd : FuncData) (ps : List Str) (sp : Sp) : Prop where
  len : ∀ vs H Q E, sp vs H Q E → vs.length = ps.length
  run : ∀ (A : Around) (outer : List Env) (s : Shared) (H : Hp) (args : Args) (us : List Value) (vs : List V) (Q : VK) (E : XK), Room k A → Env0 P w K mg base A outer s H → BindsTo s fd args (ps.zip us) → Vals vs us → sp vs H Q E →
    codeAny (model P w) A (.call (.ref f) args) (CR CX outer P w H s Q E) s
theorem Env0.make {P : Program} {w : World} {K : PySem.W.Frag} {mg : Str → Option Value} {base : Heap} {A : Around} {outer : List Env} {s : Shared} {H : Hp} (e : Env0 P w K mg base A outer s H) (C : Addr) (us : List Value) (kw : List (Str × Value)) :
    Env0 P w K mg base (A.under (.builtin "type.__call__" ⟨.ref C :: us, kw⟩)) outer s H := ⟨by first | exact e.frames | (simpa [Around.under, Code.envs, Code.isFrame, pushEnvs] using e.frames), e.mod, e.bs, e.bsz, e.funs, e.frf, e.hok, e.bare⟩
section
variable {X : Cx} {pins : List (Addr × Obj)} {σ : St} {H : Hp} {s s' : Shared}
/-- from a body: what a callee wants -/
theorem Inv.env0 (I : Inv X pins σ H s) : Env0 X.prog X.w X.K X.mg X.base X.A X.stack s H :=
  ⟨I.ok.frames, I.ok.mod, I.bs, Nat.le_trans I.ok.bsz I.sz, I.stack, I.stkFree, I.hok, I.bare⟩
/-- behind a call -/
theorem Inv.after {Q : VK} {u : Value} (I : Inv X pins σ H s) (h : CE X.stack X.prog X.w H s Q u s') : EP X pins σ Q u s' := by
  obtain ⟨v, H', os, bare, un, hok, r, q⟩ := h
  obtain ⟨hh, g, d, t, os'⟩ := s'
  obtain rfl : os' = s.os := os
  exact ⟨v, H', I.call (h' := hh) (g' := g) (d' := d) (t' := t) (ch := []) un hok bare (fun b z => absurd z (by simp)), r, q⟩
end
/-! ### calls -/
/-- f(..): the written arguments, then the defaults dvs; E: what is wanted of an exception -/
def tCall (sp : Sp) (dvs : List V) (E : XK) (t : TA) : TE := fun σ H Q => t σ H fun vs H1 => sp (vs ++ dvs) H1 Q E
/-- o.m(..) of an instance of the class at C -/
def tMeth (C : Addr) (m : Str) (sp : Sp) (dvs : List V) (E : XK) (ta : TE) (t : TA) : TE := fun σ H Q => ta σ H fun x H1 => ∃ a dx fs, x = .ref a ∧ H1 a = some (.ins C dx fs) ∧ fs.lookup m = none ∧
  t σ H1 fun vs H2 => sp (x :: (vs ++ dvs)) H2 Q E
/-- C(..): a new instance and its dict, then __init__ -/
def tMake (C : Addr) (sp : Sp) (dvs : List V) (E : XK) (t : TA) : TE := fun σ H Q => t σ H fun vs H1 => ∀ x dx, H1 x = none → H1 dx = none → dx ≠ x →
  sp (.ref x :: (vs ++ dvs)) (upd (upd H1 dx (.own x)) x (.ins C dx [])) (fun v H2 => v = .non ∧ Q (.ref x) H2) E
/-- how the parameters are bound: us the positional arguments, kw the keywords' values by name, ds the defaults that fill up -/
def Binds (K : PySem.W.Frag) (fd : FuncData) (ps : List Str) (ds : List Value) : Prop :=
  ∀ (s : Shared) (us : List Value), K.In s.heap → (us ++ ds).length = ps.length → BindsTo s fd ⟨us, []⟩ (ps.zip (us ++ ds))
/-- every parameter is given -/
theorem Binds.all {K : PySem.W.Frag} {fd : FuncData} {ps : List Str} (h : ∀ us : List Value, us.length = ps.length → bindArgs fd ⟨us, []⟩ = pure (ps.zip us)) : Binds K fd ps [] := fun s us _ hl => by
  rw [List.append_nil] at hl ⊢
  exact .of_eq (h us hl)
/-- an exception of a callee reaches what this body wants of exceptions -/
def Passes (CX : CXT) (X : Cx) (E : XK) : Prop := ∀ (pins : List (Addr × Obj)) (σ : St) (H : Hp) (s : Shared) (e : Value) (s' : Shared), Inv X pins σ H s → CX X.stack H s E e s' → X.xe e s'
section
variable {X : Cx} {CX : CXT} {k : Nat} {f C : Addr} {fd : FuncData} {ps : List Str} {sp : Sp} {dvs : List V} {ds : List Value} {E : XK} {x m : Str} {p pos apos : Pos} {e o : Expr} {es : List Expr} {ta : TE} {t : TA}
/-- the callee runs -/
theorem run_fn {pins : List (Addr × Obj)} {σ : St} {H : Hp} {s : Shared} {Q : VK} {us : List Value} {vs : List V} (F : FnOk X.prog X.w X.K X.mg X.base CX k f fd ps sp) (hr : Room k X.A) (hb : Binds X.K fd ps ds) (hd : Vals dvs ds) (hx : Passes CX X E)
    (I : Inv X pins σ H s) (r : Vals vs us) (h : sp (vs ++ dvs) H Q E) : wpAny (model X.prog X.w) X.A (call (.ref f) us) (EP X pins σ Q) X.xe s := by
  have r2 : Vals (vs ++ dvs) (us ++ ds) := r.append hd
  have hl : (us ++ ds).length = ps.length := by rw [← r2.length]; exact F.len _ _ _ _ h
  refine wpAny_call (codeAny_mono (F.run X.A X.stack s H ⟨us, []⟩ (us ++ ds) (vs ++ dvs) Q E hr I.env0 (hb s us I.kIn hl) r2 h) fun r s' hq => ?_)
  cases r with
  | error e => exact hx pins σ H s e s' I hq
  | ok fl =>
    cases fl with
    | ret u => exact I.after hq
    | next => exact False.elim hq
    | brk => exact False.elim hq
    | cont => exact False.elim hq
theorem pe_call (F : FnOk X.prog X.w X.K X.mg X.base CX k f fd ps sp) (hr : Room k X.A) (hg : Gl X x) (hm : X.mg x = some (.ref f)) (hk : PySem.W.keepIn X.K (.ref f) = true) (hb : Binds X.K fd ps ds) (hd : Vals dvs ds) (hx : Passes CX X E)
    (ha : PA X (e :: es) t) (hdb : (x == ("__debug__" : Str)) = false := by decide) (he : starEach (e :: es) X.env = (false, eval e X.env) :: starEach es X.env := by rfl) (hpl : (backTo pos (starEach es X.env)).any (·.1) = false := by rfl) :
    PE X (.Call (.Name x p) (e :: es) [] pos) (tCall sp dvs E t) := by
  intro pins s σ H Q I h
  refine wpAny_Call_Name_kw (ld_glob I hg hm ?_ hdb)
  refine PySem.W.callWith_K (h₀ := X.base) I.ok.mod.kin hk (thn (ha pos pins s σ H _ I h) fun us s1 ⟨vs, H1, I1, r, q⟩ => ⟨I1.kIn, ?_⟩) he hpl
  exact run_fn F hr hb hd hx I1 r q
/-- o.m() -/
theorem pe_meth0 {pl : Sem Bool} (he : PE X o ta) (c : Cls X.K C) (hm : Meth X.K C m f) (F : FnOk X.prog X.w X.K X.mg X.base CX k f fd ps sp) (hr : Room k X.A) (hb : Binds X.K fd ps ds) (hd : Vals dvs ds) (hx : Passes CX X E)
    (ht : eval (.Call (.Attribute o m apos) [] [] pos) X.env = (do
      let ov ← eval o X.env
      standAt apos.atName
      let (f, first) ← holding [ov] (getMethod ov m pl)
      callWith pos f first (backTo pos (starEach [] X.env)) (backToKw pos (keywordEach [] X.env))) := by rfl) :
    PE X (.Call (.Attribute o m apos) [] [] pos) (tMeth C m sp dvs E ta tNil) := by
  intro pins s σ H Q I h
  refine PySem.W.methodCall_KW (pl := pl) (thn (he pins s σ H _ I h) fun u s1 ⟨x, H1, I1, rx, a, dx, fs, ex, ea, l, q⟩ => ?_) ht
  subst ex
  obtain rfl : u = Value.ref a := rx
  refine getmeth_ok I1 ea c hm l ?_
  exact PySem.W.callWith_K0 (first := [.ref a]) I1.kIn hm.kp (run_fn (us := [.ref a]) (vs := [.ref a]) F hr hb hd hx I1 (.cons rfl .nil) q)
/-- what a class must have to be made -/
structure Mk (K : PySem.W.Frag) (C f : Addr) : Prop where
  makes : PySem.W.makesIn K C = true
  init : PySem.W.findIn K (.ref C) "__init__" = some (some (.ref f))
  fn : PySem.W.isFn K (.ref f) = true
  kp : PySem.W.keepIn K (.ref C) = true
theorem run_make {pins : List (Addr × Obj)} {σ : St} {H : Hp} {s : Shared} {Q : VK} {us : List Value} {vs : List V} (M : Mk X.K C f) (F : FnOk X.prog X.w X.K X.mg X.base CX k f fd ps sp) (hr : Room (k + 1) X.A) (hb : Binds X.K fd ps ds) (hd : Vals dvs ds)
    (hx : Passes CX X E) (I : Inv X pins σ H s) (r : Vals vs us)
    (h : ∀ x dx, H x = none → H dx = none → dx ≠ x → sp (.ref x :: (vs ++ dvs)) (upd (upd H dx (.own x)) x (.ins C dx [])) (fun v H2 => v = .non ∧ Q (.ref x) H2) E) :
    wpAny (model X.prog X.w) X.A (call (.ref C) us) (EP X pins σ Q) X.xe s := by
  have hq := h (s.heap.objs.size + 1) s.heap.objs.size (I.hok.fresh (Nat.le_succ _)) (I.hok.fresh (Nat.le_refl _)) (Nat.ne_of_lt (Nat.lt_succ_self _))
  have I2 := Inv.made (C := C) I
  have r2 : Vals (V.ref (s.heap.objs.size + 1) :: (vs ++ dvs)) (Value.ref (s.heap.objs.size + 1) :: (us ++ ds)) := .cons rfl (r.append hd)
  have hl : (Value.ref (s.heap.objs.size + 1) :: us ++ ds).length = ps.length := by
    have e := r2.length
    rw [F.len _ _ _ _ hq] at e
    exact e.symm
  refine wpAny_call (make_map (f := f) I.kIn M.makes M.init (beq_iff_eq.mp M.fn) (codeAny_mono (F.run _ X.stack _ _ ⟨Value.ref (s.heap.objs.size + 1) :: us, []⟩ (Value.ref (s.heap.objs.size + 1) :: (us ++ ds)) _ _ E (hr.make C us [])
    (I2.env0.make C us []) (hb _ (Value.ref (s.heap.objs.size + 1) :: us) I2.kIn hl) r2 hq) fun r s' hq' => ?_))
  cases r with
  | error e => exact hx pins σ _ _ e s' I2 hq'
  | ok fl =>
    cases fl with
    | ret u =>
      obtain ⟨v, H', I3, rv, ev, q3⟩ := I2.after hq'
      subst ev
      exact ⟨rv, ⟨V.ref (s.heap.objs.size + 1), H', I3, rfl, q3⟩⟩
    | next => exact False.elim hq'
    | brk => exact False.elim hq'
    | cont => exact False.elim hq'
theorem pe_make (M : Mk X.K C f) (F : FnOk X.prog X.w X.K X.mg X.base CX k f fd ps sp) (hr : Room (k + 1) X.A) (hg : Gl X x) (hm : X.mg x = some (.ref C)) (hb : Binds X.K fd ps ds) (hd : Vals dvs ds) (hx : Passes CX X E)
    (ha : PA X (e :: es) t) (hdb : (x == ("__debug__" : Str)) = false := by decide) (he : starEach (e :: es) X.env = (false, eval e X.env) :: starEach es X.env := by rfl) (hpl : (backTo pos (starEach es X.env)).any (·.1) = false := by rfl) :
    PE X (.Call (.Name x p) (e :: es) [] pos) (tMake C sp dvs E t) := by
  intro pins s σ H Q I h
  refine wpAny_Call_Name_kw (ld_glob I hg hm ?_ hdb)
  refine PySem.W.callWith_K (h₀ := X.base) I.ok.mod.kin M.kp (thn (ha pos pins s σ H _ I h) fun us s1 ⟨vs, H1, I1, r, q⟩ => ⟨I1.kIn, ?_⟩) he hpl
  exact run_make M F hr hb hd hx I1 r q
end
/-! ### keywords -/
section
variable {X : Cx} {CX : CXT} {k : Nat} {f C : Addr} {fd : FuncData} {ps ks : List Str} {sp : Sp} {E : XK} {x m : Str} {p pos apos kpos : Pos} {e o : Expr} {es : List Expr} {kws : List Keyword} {te ta : TE} {t tk : TA} {nm : Option Str}
variable {g : List Value → List Value → List Value} {gV : List V → List V → List V}
end
/-! ### a def's body keeps its promise -/
/-- names: the parameters first -/
structure FnScope (N P : List Str) (sc : Scope) : Prop where
  kind : sc.kind = .function
  co : sc.isCoroutine = false
  gen : sc.isGenerator = false
  nd : N.Nodup
  pre : N.take P.length = P
  par : ∀ x ∈ P, sc.names.lookup x = some .local ∨ sc.names.lookup x = some .cell
  nofree : ∀ y ∈ sc.names, y.2 ≠ .free
theorem bindL_out {kindOf : Str → Option NameKind} {x : Str} : ∀ {binds : List (Str × Value)} {m : Str → Option Value}, (∀ v, (x, v) ∉ binds) → bindL kindOf binds m x = m x
  | [], _, _ => rfl
  | (n, v) :: r, m, h => by
    unfold bindL
    rw [bindL_out fun w hw => h w (List.mem_cons_of_mem _ hw)]
    split
    · have : x ≠ n := by rintro rfl; exact h v List.mem_cons_self
      simp [this]
    · rfl
theorem bindC_out {kindOf : Str → Option NameKind} {x : Str} : ∀ {binds : List (Str × Value)} {m : Str → Option Value}, (∀ v, (x, v) ∉ binds) → bindC kindOf binds m x = m x
  | [], _, _ => rfl
  | (n, v) :: r, m, h => by
    unfold bindC
    rw [bindC_out fun w hw => h w (List.mem_cons_of_mem _ hw)]
    split
    · rfl
    · have : x ≠ n := by rintro rfl; exact h v List.mem_cons_self
      simp [this]
theorem bindL_get {kindOf : Str → Option NameKind} {x : Str} {v : Value} : ∀ {P : List Str} {vs : List Value} {i : Nat} {m : Str → Option Value}, P.Nodup → P[i]? = some x → vs[i]? = some v → kindOf x = some .local →
    bindL kindOf (P.zip vs) m x = some v
  | [], _, _, _, _, h, _, _ => by simp at h
  | _ :: _, [], _, _, _, _, h, _ => by simp at h
  | p :: P, w :: vs, 0, m, nd, h1, h2, hk => by
    simp at h1 h2; subst h1; subst h2
    show bindL kindOf ((p, w) :: P.zip vs) m p = _
    unfold bindL
    rw [bindL_out fun v hv => (List.nodup_cons.mp nd).1 (List.of_mem_zip hv).1, if_pos hk]
    simp
  | p :: P, w :: vs, i + 1, m, nd, h1, h2, hk => by
    show bindL kindOf ((p, w) :: P.zip vs) m x = _
    unfold bindL
    exact bindL_get (i := i) (List.nodup_cons.mp nd).2 (by simpa using h1) (by simpa using h2) hk
theorem bindC_get {kindOf : Str → Option NameKind} {x : Str} {v : Value} : ∀ {P : List Str} {vs : List Value} {i : Nat} {m : Str → Option Value}, P.Nodup → P[i]? = some x → vs[i]? = some v → kindOf x ≠ some .local →
    bindC kindOf (P.zip vs) m x = some v
  | [], _, _, _, _, h, _, _ => by simp at h
  | _ :: _, [], _, _, _, _, h, _ => by simp at h
  | p :: P, w :: vs, 0, m, nd, h1, h2, hk => by
    simp at h1 h2; subst h1; subst h2
    show bindC kindOf ((p, w) :: P.zip vs) m p = _
    unfold bindC
    rw [bindC_out fun v hv => (List.nodup_cons.mp nd).1 (List.of_mem_zip hv).1, if_neg hk]
    simp
  | p :: P, w :: vs, i + 1, m, nd, h1, h2, hk => by
    show bindC kindOf ((p, w) :: P.zip vs) m x = _
    unfold bindC
    exact bindC_get (i := i) (List.nodup_cons.mp nd).2 (by simpa using h1) (by simpa using h2) hk
/-- the names' values at the entry -/
def start (N : List Str) (vs : List V) : St := vs.map some ++ List.replicate (N.length - vs.length) none
/-- the context of a def's body, at its entry; an exception leaves the frame, then lies as CX says -/
def cxOf (CX : CXT) (P : Program) (w : World) (K : PySem.W.Frag) (mg : Str → Option Value) (base : Heap) (N : List Str) (qual : Str) (scope : Scope) (f : Addr) (cd : Value) (A : Around) (outer : List Env) (s : Shared) (H : Hp) (E : XK) : Cx where
  prog := P
  w := w
  K := K
  mg := mg
  base := base
  A := A.deeper (envOfC qual scope s.heap.objs.size f cd)
  N := N
  s_0 := s
  H_0 := H
  env := envOfC qual scope s.heap.objs.size f cd
  outer := outer
  stack := envOfC qual scope s.heap.objs.size f cd :: outer
  ex := []
  calm := true
  fn := fun _ => true
  pn := []
  xe := fun e s' => wpAny (model P w) (A.deeper (envOfC qual scope s.heap.objs.size f cd)) (leaving (envOfC qual scope s.heap.objs.size f cd) e) (fun _ s'' => CX outer H s E e s'') (fun e' s'' => CX outer H s E e' s'') s'
theorem cell_has {sc : Scope} {n : Nat} {x : Str} (h : sc.names.lookup x = some .cell) : ∃ c, (cellsFrom n sc.names []).lookup x = some c := by
  have q := PySem.W.cellsFrom_some sc.names n [] (.inl h)
  exact Option.isSome_iff_exists.mp q
theorem inv_start {CX : CXT} {P : Program} {w : World} {K : PySem.W.Frag} {mg : Str → Option Value} {base : Heap} {N ps : List Str} {qual : Str} {scope : Scope} {f : Addr} {cd : Value} {A : Around} {outer : List Env} {s s1 : Shared} {H : Hp} {E : XK} {us : List Value} {vs : List V}
    (S : FnScope N ps scope) (hd : A.handled = none) (e0 : Env0 P w K mg base A outer s H) (hl : vs.length = ps.length) (r : Vals vs us)
    (x : InCallC s s.heap.objs.size (bindL (envOfC qual scope s.heap.objs.size f cd).kindOf (ps.zip us) fun _ => none) (cellsFrom (s.heap.objs.size + 1) scope.names []) (bindC (envOfC qual scope s.heap.objs.size f cd).kindOf (ps.zip us) fun _ => none) s1) :
    Inv (cxOf CX P w K mg base N qual scope f cd A outer s H E) [] (start N vs) H s1 := by
  have hpl : ps.length ≤ N.length := by have := congrArg List.length S.pre; rw [List.length_take] at this; omega
  obtain ⟨h1, tk, rfl, hk⟩ := x.done
  have noA : ∀ b : Addr, b ∉ (cxOf CX P w K mg base N qual scope f cd A outer s H E).ex := fun b z => absurd (show b ∈ ([] : List Addr) from z) (by simp)
  refine ⟨⟨e0.mod, S.kind, rfl, rfl, Nat.le_refl _, fun y z c h1 h2 => ?_, fun y hy => ?_, fun y c _ h => ?_, fun _ => hd, Around.frames_deeper e0.frames, .inr ⟨rfl, rfl⟩, fun b z => absurd z (noA b), e0.bs, e0.bsz, fun b _ _ => noA b, fun b z => absurd z (noA b), e0.funs, e0.frf⟩,
    rfl, e0.bare, Un.kept hk, ⟨_, x.toInCall.ns, fun i y v h1 h2 h3 => ?_⟩, fun y c h => ⟨_, x.cell y c h⟩, e0.hok.fresh (Nat.le_refl _), fun y c h => ?_, fun p hp => absurd (show p ∈ ([] : List (Addr × Obj)) from hp) (by simp), e0.hok.kept hk, ?_⟩
  · exact name_of_addr x.apart (PySem.mem_of_lookup h1) (PySem.mem_of_lookup h2)
  · have hy : scope.names.lookup y = some .cell ∨ scope.names.lookup y = some .free := hy
    rcases hy with hy | hy
    · exact cell_has hy
    · exact absurd rfl (S.nofree _ (PySem.mem_of_lookup hy))
  · exact Nat.le_of_lt (x.above y c (PySem.mem_of_lookup h))
  · have hi : i < vs.length := by
      unfold start at h2
      by_cases hi : i < vs.length
      · exact hi
      · rw [List.getElem?_append_right (by simpa using hi)] at h2
        rw [List.getElem?_replicate] at h2
        split at h2 <;> cases h2
    have ha : vs[i]? = some v := by
      unfold start at h2
      rw [List.getElem?_append_left (by simpa using hi), List.getElem?_map] at h2
      cases e : vs[i]? with
      | none => rw [e] at h2; cases h2
      | some a => rw [e] at h2; cases h2; rfl
    obtain ⟨u, hu, rv⟩ := r.get ha
    have hp : ps[i]? = some y := by
      rw [← S.pre, List.getElem?_take_of_lt (by omega)]; exact h1
    have ndP : ps.Nodup := by rw [← S.pre]; exact S.nd.sublist (List.take_sublist _ _)
    refine ⟨u, rv, ?_⟩
    rcases S.par y (List.mem_of_getElem? hp) with k | k
    · exact .inl ⟨k, bindL_get ndP hp hu k⟩
    · obtain ⟨c, e⟩ := cell_has (n := s.heap.objs.size + 1) k
      refine .inr ⟨.inl k, c, e, ?_⟩
      have q := x.cell y c e
      rw [bindC_get ndP hp hu (by show scope.names.lookup y ≠ _; rw [k]; decide)] at q
      exact q
  · exact e0.hok.fresh (Nat.le_of_lt (x.above y c (PySem.mem_of_lookup h)))
  · unfold start
    show _ = N.length
    rw [List.length_append, List.length_map, List.length_replicate]
    omega
/-- THE RULE: a def (or a method) of the text, by its body. The body's reading t is chosen for each entry; it is run at the parameters' values -/
theorem fn_of {CX : CXT} {P : Program} {w : World} {K : PySem.W.Frag} {mg : Str → Option Value} {base : Heap} {k : Nat} {f : Addr} {name qual : Str} {params : Arguments} {body : List Stmt} {scope : Scope} {dV kV doc pm cdv ct oc : Value} {an od : Option Addr}
    {osl : Array (Option Value)} {N ps : List Str} {sp : Sp} (lk : K.lookup f = some ⟨oc, od, .func (PySem.W.fnOf name qual params body scope dV kV doc pm an cdv ct), osl⟩) (hcd : PySem.W.codeIn K cdv qual = true) (S : FnScope N ps scope)
    (len : ∀ vs H Q E, sp vs H Q E → vs.length = ps.length)
    (hbody : ∀ (A : Around) (outer : List Env) (s : Shared) (H : Hp) (vs : List V) (Q : VK) (E : XK), Room k (A.deeper (envOfC qual scope s.heap.objs.size f cdv)) → sp vs H Q E →
      ∃ t, PSs (cxOf CX P w K mg base N qual scope f cdv A outer s H E) body t ∧ t { nx := fun _ H' => Q .non H', rt := Q } (start N vs) H) :
    FnOk P w K mg base CX (k + 1) f (PySem.W.fnOf name qual params body scope dV kV doc pm an cdv ct) ps sp := by
  refine ⟨len, fun A outer s H args us vs Q E hr e0 hb r hsp => ?_⟩
  have hl := len _ _ _ _ hsp
  have KX : K.In s.heap := e0.mod.kin.keeps fun b o e => (e0.bs b o e).1
  have lim : s.heap.NoLimit := e0.mod.nolimit.keeps fun b o e => (e0.bs b o e).1
  have hkind : ∀ y ∈ ps.zip us, scope.names.lookup y.1 = some .local ∨ (scope.names.lookup y.1 = some .cell ∧ ((cellsFrom (s.heap.objs.size + 1) scope.names []).lookup y.1).isSome = true) := fun ⟨n, v⟩ hy => by
    rcases S.par n (List.of_mem_zip hy).1 with q | q
    · exact .inl q
    · exact .inr ⟨q, PySem.W.cellsFrom_some _ _ _ (.inl q)⟩
  refine codeAny_call_function hr.depth (KX _ _ lk) rfl S.co S.gen rfl (PySem.W.codeRec_of KX hcd) (hb _ _ _ _ ?_)
  refine wpAny_newFunctionEnv_cells S.kind hkind fun env he s1 x => ?_
  subst he
  refine ⟨lim.keeps x.toInCall.keep, codeAny_func ?_⟩
  obtain ⟨t, ht, hq⟩ := hbody A outer s H vs Q E (hr.deeper _) hsp
  have I : Inv (cxOf CX P w K mg base N qual scope f cdv A outer s H E) [] (start N vs) H s1 := inv_start S hr.hd e0 hl r x
  refine wpAny_mono (ht [] s1 (start N vs) H _ I hq) (fun fl s' hs => ?_) fun e s' hs => hs
  have fin : ∀ {σ' : St} {H' : Hp} {v : V} {u : Value}, Inv (cxOf CX P w K mg base N qual scope f cdv A outer s H E) [] σ' H' s' → RelV v u → Q v H' → CE outer P w H s Q u s' :=
    fun {σ' H' v u} J rv q => ⟨v, H', J.os, J.bare, J.base, J.hok, rv, q⟩
  cases fl with
  | ret u =>
    obtain ⟨v, σ', H', J, rv, q⟩ := hs
    exact fin J rv q
  | next =>
    obtain ⟨σ', H', J, q⟩ := hs
    exact fin (v := V.non) (u := Value.none) J rfl q
  | brk =>
    obtain ⟨_, _, _, q⟩ := hs
    exact False.elim q
  | cont =>
    obtain ⟨_, _, _, q⟩ := hs
    exact False.elim q
end L2
namespace L2
open PySem PySem.Spec PyProof.Rows
section
variable {X : Cx} {x : Str} {p pos : Pos} {e : Expr} {es : List Expr} {t : TA} {id T : String} {r : List V → Hp → VK → Prop}
def tCB (r : List V → Hp → VK → Prop) (t : TA) : TE := fun σ H Q => t σ H fun vs H1 => r vs H1 Q
/-- f(e, ..), f a built-in function -/
theorem pe_callB (hc : CallR X (.builtin id) r) (hg : Gl X x) (hm : X.mg x = none) (hv : bootBuiltins x = some (.builtin id)) (ha : PA X (e :: es) t) (hn : x ≠ "__name__" := by decide) (hdb : (x == ("__debug__" : Str)) = false := by decide)
    (he : starEach (e :: es) X.env = (false, eval e X.env) :: starEach es X.env := by rfl) (hpl : (backTo pos (starEach es X.env)).any (·.1) = false := by rfl) : PE X (.Call (.Name x p) (e :: es) [] pos) (tCB r t) := by
  intro pins s σ H Q I h
  refine wpAny_Call_Name_kw (ld_blt I hg hm hv ?_ hn hdb)
  exact PyProof.Rows.callWith_builtin1 (thn (ha pos pins s σ H _ I h) fun us s1 ⟨vs, H1, I1, r1, q1⟩ => hc pins s1 σ H1 vs us Q I1 r1 q1) he hpl
/-- T(e, ..), T a built-in type -/
theorem pe_callTy (hc : CallR X (.type T) r) (hg : Gl X x) (hm : X.mg x = none) (hv : bootBuiltins x = some (.type T)) (ha : PA X (e :: es) t) (hn : x ≠ "__name__" := by decide) (hdb : (x == ("__debug__" : Str)) = false := by decide)
    (he : starEach (e :: es) X.env = (false, eval e X.env) :: starEach es X.env := by rfl) (hpl : (backTo pos (starEach es X.env)).any (·.1) = false := by rfl) : PE X (.Call (.Name x p) (e :: es) [] pos) (tCB r t) := by
  intro pins s σ H Q I h
  refine wpAny_Call_Name_kw (ld_blt I hg hm hv ?_ hn hdb)
  exact PyProof.Rows.callWith_type1 (thn (ha pos pins s σ H _ I h) fun us s1 ⟨vs, H1, I1, r1, q1⟩ => hc pins s1 σ H1 vs us Q I1 r1 q1) he hpl
end
end L2
namespace HT
open PySem PyProof.Rows
section
open PySem.SeqAt
open PySem.AutoSeq1 (wpAny_loadPart')
open PySem.MeetsSeq PySem.MeetsSeq2 PySem.MeetsSeq3
end
section
variable {prog : Program} {w : World} {A : Around} {E : Value → Shared → Prop} {s : Shared}
/-! ### t[a:b], not the whole -/
/-- a slice's bound as a place among n (d where it is left out) -/
def sIx (n d : Nat) : Option Int → Nat
  | none => d
  | some v => if v < 0 then (v + (n : Int)).toNat else min v.toNat n
theorem sIx_none (n d : Nat) : sIx n d none = d := rfl
theorem sIx_nat (n d k : Nat) : sIx n d (some (k : Int)) = min k n := by
  show (if (k : Int) < 0 then ((k : Int) + (n : Int)).toNat else min (k : Int).toNat n) = min k n
  rw [if_neg (by omega), Int.toNat_natCast]
end
end HT
namespace L2
open PySem PySem.Spec PyProof.Rows
/-! ### the parts of a slice -/
abbrev TO := St → Hp → (Option Int → Hp → Prop) → Prop
/-- a slice's part (left out, or an int) -/
def PO (X : Cx) (e : Option Expr) (t : TO) : Prop :=
  ∀ (pins : List (Addr × Obj)) (s : Shared) (σ : St) (H : Hp) (Q : Option Int → Hp → Prop), Inv X pins σ H s → t σ H Q →
    wpAny (model X.prog X.w) X.A (evalPart e X.env) (fun u s' => ∃ o H', Inv X pins σ H' s' ∧ IsPart u o ∧ Q o H') X.xe s
def tNoPart : TO := fun _ H Q => Q none H
def tPart (t : TE) : TO := fun σ H Q => t σ H fun x H1 => ∃ i, x = .int i ∧ Q (some i) H1
section
variable {X : Cx} {e : Expr} {te : TE} {lo hi : Option Expr} {tl th : TO} {pos p2 : Pos}
theorem po_none : PO X none tNoPart := by
  intro pins s σ H Q I h
  rw [evalPart_none]
  exact wpAny_pure ⟨none, H, I, .none, h⟩
theorem po_some (h : PE X e te) : PO X (some e) (tPart te) := by
  intro pins s σ H Q I hw
  rw [evalPart_some]
  refine thn (h pins s σ H _ I hw) fun u s1 ⟨x, H1, I1, r1, q1⟩ => ?_
  obtain ⟨i, rfl, q⟩ := q1
  obtain ⟨t, rfl⟩ := r1
  exact ⟨some i, H1, I1, .int i t, q⟩
/-- what a slice of a value is, by values: the slice object stands at sl -/
def SlR (X : Cx) (r : V → Option Int → Option Int → Hp → VK → Prop) : Prop :=
  ∀ (pins : List (Addr × Obj)) (s : Shared) (σ : St) (H : Hp) (x : V) (v vl vu : Value) (lo hi : Option Int) (sl : Addr) (Q : VK), Inv X pins σ H s → RelV x v → s.heap.IsSliceOf sl vl vu .none → IsPart vl lo → IsPart vu hi → r x lo hi H Q →
    ∃ T id, typeLookup (.type T) "__getitem__" = pure (some (.builtin id)) ∧ s.TypeIs v T ∧ wpAny (model X.prog X.w) X.A (getItem v (.ref sl)) (EP X pins σ Q) X.xe s
def tSl (r : V → Option Int → Option Int → Hp → VK → Prop) (te : TE) (tl th : TO) : TE := fun σ H Q => te σ H fun x H1 => tl σ H1 fun l H2 => th σ H2 fun u H3 => r x l u H3 Q
/-- a[lo:hi], any a -/
theorem pe_slice {r : V → Option Int → Option Int → Hp → VK → Prop} (hr : SlR X r) (he : PE X e te) (hl : PO X lo tl) (hu : PO X hi th) : PE X (.Subscript e (.Slice lo hi none p2) pos) (tSl r te tl th) := by
  intro pins s σ H Q I h
  refine Subscript_ (thn (he pins s σ H _ I h) fun v s1 ⟨x, H1, I1, r1, q1⟩ => ?_)
  refine wpAny_Slice (thn (hl pins s1 σ H1 _ I1 q1) fun vl s2 ⟨l, H2, I2, pl, q2⟩ => thn (hu pins s2 σ H2 _ I2 q2) fun vu s3 ⟨u, H3, I3, pu, q3⟩ => ?_)
  rw [evalPart_none]
  refine wpAny_pure ?_
  have I4 : Inv X pins σ H3 { s3 with heap := s3.heap.push { cls := .type "slice", data := .fields #[vl, vu, .none] } } := I3.kept (t' := s3.toks) fun b ob q => Heap.get?_push_of_some _ q
  obtain ⟨T, id, hT, ht, hg⟩ := hr pins { s3 with heap := s3.heap.push { cls := .type "slice", data := .fields #[vl, vu, .none] } } σ H3 x v vl vu l u s3.heap.objs.size Q I4 r1 (Heap.IsSliceOf.new ..) pl pu q3
  show wpAny (model X.prog X.w) X.A (subscriptTail e (.Slice lo hi none p2) v (.ref s3.heap.objs.size)) (EP X pins σ Q) X.xe { s3 with heap := s3.heap.push { cls := .type "slice", data := .fields #[vl, vu, .none] } }
  exact tail_any (ops := [.ref s3.heap.objs.size, v]) ht hT hg (by with_unfolding_all rfl)
/-- the items of xs[lo:hi] -/
def cutV (xs : List V) (lo hi : Option Int) : List V := (xs.drop (HT.sIx xs.length 0 lo)).take (HT.sIx xs.length xs.length hi - HT.sIx xs.length 0 lo)
theorem cutV_length (xs : List V) (lo hi : Option Int) : (cutV xs lo hi).length ≤ xs.length := by
  unfold cutV
  rw [List.length_take, List.length_drop]
  omega
/-! ### t < u, t + u -/
end
end L2
namespace L2
open PySem PySem.Spec PyProof.Rows
/-! ### places -/
/-- the place that an index of any sign means -/
def ixN (n : Nat) (i : Int) : Option Nat := if 0 ≤ i then (if i < n then some i.toNat else none) else if -(n : Int) ≤ i then some (i + n).toNat else none
def atI {α : Type} (xs : List α) (i : Int) : Option α := (ixN xs.length i).bind fun j => xs[j]?
theorem ixN_seq {n : Nat} {i : Int} {j : Nat} (h : ixN n i = some j) : seqIndex? i n = some j ∧ j < n ∧ -(n : Int) ≤ i ∧ i < n := by
  unfold ixN at h
  by_cases h0 : 0 ≤ i
  · rw [if_pos h0] at h
    by_cases h1 : i < n
    · rw [if_pos h1] at h
      have e : i.toNat = j := Option.some.inj h
      exact ⟨by rw [seqIndex_of h0 h1, e], by omega, by omega, h1⟩
    · rw [if_neg h1] at h; cases h
  · rw [if_neg h0] at h
    by_cases h1 : -(n : Int) ≤ i
    · rw [if_pos h1] at h
      have e : (i + n).toNat = j := Option.some.inj h
      exact ⟨by rw [seqIndex_neg (by omega) h1, e], by omega, h1, by omega⟩
    · rw [if_neg h1] at h; cases h
theorem atI_get {α : Type} {xs : List α} {i : Int} {v : α} (h : atI xs i = some v) : ∃ j, seqIndex? i xs.length = some j ∧ xs[j]? = some v ∧ j < xs.length ∧ -(xs.length : Int) ≤ i ∧ i < xs.length := by
  unfold atI at h
  cases e : ixN xs.length i with
  | none => rw [e] at h; cases h
  | some j =>
    rw [e] at h
    obtain ⟨h1, h2, h3, h4⟩ := ixN_seq e
    exact ⟨j, h1, h, h2, h3, h4⟩
theorem atI_nat {α : Type} {xs : List α} {j : Nat} {v : α} (h : xs[j]? = some v) : atI xs (j : Int) = some v := by
  have hj : j < xs.length := (List.getElem?_eq_some_iff.mp h).1
  have e : ixN xs.length (j : Int) = some j := by
    unfold ixN
    rw [if_pos (by omega), if_pos (by omega)]; simp
  unfold atI; rw [e]; exact h
/-! ### what may be subscripted -/
/-- what stands as an index of a plain subscript -/
def PlainIx (b : Expr) : Prop := ∀ o i, subscripted b false o i = operate [o, i] (getItem o i)
/-- a subscript by values -/
def IxR (X : Cx) (r : R2) : Prop :=
  ∀ (value slice : Expr) (pins : List (Addr × Obj)) (s : Shared) (σ : St) (H : Hp) (x y : V) (v u : Value) (Q : VK), Inv X pins σ H s → RelV x v → RelV y u → r x y H Q →
    subscripted slice false v u = operate [v, u] (getItem v u) → wpAny (model X.prog X.w) X.A (subscriptTail value slice v u) (EP X pins σ Q) X.xe s
/-- a call of a builtin's method by values: the receiver, the arguments -/
def MtR (X : Cx) (id : String) (r : V → List V → Hp → VK → Prop) : Prop :=
  ∀ (pins : List (Addr × Obj)) (s : Shared) (σ : St) (H : Hp) (x : V) (xs : List V) (v : Value) (us : List Value) (Q : VK), Inv X pins σ H s → RelV x v → Vals xs us → r x xs H Q →
    wpAny (model X.prog X.w) X.A (call (.builtin id) (v :: us)) (EP X pins σ Q) X.xe s
section
variable {X : Cx} {a b : Expr} {ta tb : TE} {pos : Pos}
/-- a[b] -/
theorem pe_ix {r : R2} (hr : IxR X r) (ha : PE X a ta) (hb : PE X b tb) (hs : PlainIx b) : PE X (.Subscript a b pos) (tOp r ta tb) := by
  intro pins s σ H Q I h
  exact Subscript_ (binT ha hb I h fun v u s2 x y H2 I2 rx ry q => hr a b pins s2 σ H2 x y v u Q I2 rx ry q (hs _ _))
def rIxL (K : PySem.W.Frag) : R2 := fun x y H Q => ∃ p xs i v, x = .ref p ∧ y = .int i ∧ SqL K H p xs ∧ atI xs i = some v ∧ Q v H
def rIxT (K : PySem.W.Frag) : R2 := fun x y H Q => ∃ p xs i v, x = .ref p ∧ y = .int i ∧ SqT K H p xs ∧ atI xs i = some v ∧ Q v H
theorem ix_list : IxR X (rIxL X.K) := by
  intro value slice pins s σ H x y v u Q I rx ry h hs
  obtain ⟨p, xs, i, z, rfl, rfl, hq, he, q⟩ := h
  cases rx
  obtain ⟨t, rfl⟩ := ry
  obtain ⟨its, r, pl, hz⟩ := I.list hq
  obtain ⟨j, h1, h2, h3, h4, h5⟩ := atI_get he
  obtain ⟨w, ew, rw'⟩ := r.get h2
  have hl := r.length
  have hn := line63
  have fin : EP X pins σ Q w s := ⟨z, H, I, rw', q⟩
  by_cases h0 : 0 ≤ i
  · have hj : i.toNat = j := by
      rw [seqIndex_of h0 h5] at h1
      exact Option.some.inj h1
    exact item_listR pl.isList h0 (by omega) (by rw [hj]; simpa using ew) fin hs
  · have hj : (i + (its.toArray.size : Int)).toNat = j := by
      rw [seqIndex_neg (by omega) h4] at h1
      rw [List.size_toArray, ← hl]
      exact Option.some.inj h1
    exact subscriptTail_builtinR (x := w) pl.isList.typeIs slot_list_getitem.lookup
      (wpAny_getItem_list_neg (Q := fun r s' => r = w ∧ EP X pins σ Q r s') pl.isList (by omega) (by rw [List.size_toArray] <;> omega) (by omega) (by rw [hj]; simpa using ew) ⟨rfl, fin⟩) hs
theorem ix_tup : IxR X (rIxT X.K) := by
  intro value slice pins s σ H x y v u Q I rx ry h hs
  obtain ⟨p, xs, i, z, rfl, rfl, hq, he, q⟩ := h
  cases rx
  obtain ⟨t, rfl⟩ := ry
  obtain ⟨its, r, pl, hz⟩ := I.tuple hq
  obtain ⟨j, h1, h2, h3, h4, h5⟩ := atI_get he
  obtain ⟨w, ew, rw'⟩ := r.get h2
  have hl := r.length
  have hn := line63
  have fin : EP X pins σ Q w s := ⟨z, H, I, rw', q⟩
  exact subscriptTail_builtinR (x := w) pl.typeIs slot_tuple_getitem.lookup
    (getItem_tuple (j := j) (Q := fun r s' => r = w ∧ EP X pins σ Q r s') pl (by omega) (by omega) (by rw [List.size_toArray, ← hl]; exact h1) (by simpa using ew) ⟨rfl, fin⟩) hs
/-! ### xs[i] = v, any sign -/
/-! ### slices -/
theorem slice_bounds (lo hi : Option Int) (n : Nat) : (sliceBounds lo hi none n).1 = ((HT.sIx n 0 lo : Nat) : Int) ∧ (sliceBounds lo hi none n).2.1 = ((HT.sIx n n hi : Nat) : Int) ∧ (sliceBounds lo hi none n).2.2 = 1 := by
  refine ⟨?_, ?_, rfl⟩
  · cases lo with
    | none => simp [sliceBounds, HT.sIx]
    | some i =>
      simp only [sliceBounds, HT.sIx, Option.getD_none, show (1 : Int) > 0 by decide, if_true]
      by_cases h : i < 0
      · simp only [h, if_true] <;> omega
      · simp only [h, if_false] <;> omega
  · cases hi with
    | none => simp [sliceBounds, HT.sIx]
    | some i =>
      simp only [sliceBounds, HT.sIx, Option.getD_none, show (1 : Int) > 0 by decide, if_true]
      by_cases h : i < 0
      · simp only [h, if_true] <;> omega
      · simp only [h, if_false] <;> omega
theorem slicePick_cut (its : List Value) (lo hi : Option Int) : slicePick its.toArray lo hi none = ((its.drop (HT.sIx its.length 0 lo)).take (HT.sIx its.length its.length hi - HT.sIx its.length 0 lo)).toArray := by
  obtain ⟨h1, h2, h3⟩ := slice_bounds lo hi its.toArray.size
  unfold slicePick
  rw [h1, h2, h3]
  simp only [sliceRange_one, pick_run, List.size_toArray] <;> rfl
/-- xs[lo:hi] of a list: a new list -/
def rSlL (K : PySem.W.Frag) : V → Option Int → Option Int → Hp → VK → Prop := fun x lo hi H Q => ∃ a xs, x = .ref a ∧ SqL K H a xs ∧ ∀ p, H p = none → Q (.ref p) (upd H p (.lst (cutV xs lo hi)))
theorem sl_list : SlR X (rSlL X.K) := by
  intro pins s σ H x v vl vu lo hi sl Q I rx hs pl pu h
  obtain ⟨a, xs, rfl, hx, q⟩ := h
  cases rx
  obtain ⟨its, r, ht, hz⟩ := I.list hx
  have hlen := r.length
  refine ⟨"list", _, slot_list_getitem.lookup, ht.isList.typeIs, ?_⟩
  refine wpAny_getItem_list_slice ht.isList hs pl pu .none (by simp) ?_ (by rw [List.size_toArray] <;> omega)
  rw [slicePick_cut, ← hlen]
  refine ⟨.ref s.heap.objs.size, _, I.laid (t' := s.toks) (o := .lst (cutV xs lo hi)) (fun b ob q => Heap.get?_push_of_some _ q) (Nat.le_refl _) ?_, rfl, q _ (I.hok.fresh (Nat.le_refl _))⟩
  exact ⟨Nat.le_trans (cutV_length xs lo hi) hz, _, 0, (r.drop (HT.sIx xs.length 0 lo)).take (HT.sIx xs.length xs.length hi - HT.sIx xs.length 0 lo), Heap.get?_push_size _ rfl⟩
/-! ### in, not in: flat items -/
def flatV : V → Bool
  | .non => true
  | .bl _ => true
  | .int _ => true
  | .str _ => true
  | _ => false
/-- == of flat values -/
def eqV : V → V → Bool
  | .non, .non => true
  | .bl a, .bl b => a == b
  | .bl a, .int b => (if a then 1 else 0) == b
  | .int a, .bl b => a == (if b then 1 else 0)
  | .int a, .int b => a == b
  | .str a, .str b => a == b
  | _, _ => false
theorem eqAt_V {A : Around} {s : Shared} {y x : V} {u v : Value} (ry : RelV y u) (rx : RelV x v) (fy : flatV y = true) (fx : flatV x = true) : SeqAt.EqAt A s u v (eqV y x) := by
  cases y with
  | non =>
    cases ry
    cases x with
    | non => cases rx; exact SeqAt.EqAt.same _
    | bl b => cases rx; exact SeqAt.EqAt.none_bool b
    | int b => obtain ⟨t, rfl⟩ := rx; exact SeqAt.EqAt.none_int b t
    | str b => obtain ⟨t, rfl⟩ := rx; exact SeqAt.EqAt.none_str b t
    | _ => exact absurd (show false = true from fx) Bool.false_ne_true
  | bl a =>
    cases ry
    cases x with
    | non => cases rx; exact SeqAt.EqAt.bool_none a
    | bl b => cases rx; exact SeqAt.EqAt.bool_bool a b
    | int b => obtain ⟨t, rfl⟩ := rx; exact SeqAt.EqAt.bool_int a b t
    | str b => obtain ⟨t, rfl⟩ := rx; exact SeqAt.EqAt.bool_str a b t
    | _ => exact absurd (show false = true from fx) Bool.false_ne_true
  | int a =>
    obtain ⟨t', rfl⟩ := ry
    cases x with
    | non => cases rx; exact SeqAt.EqAt.int_none a t'
    | bl b => cases rx; exact SeqAt.EqAt.int_bool a t' b
    | int b => obtain ⟨t, rfl⟩ := rx; exact SeqAt.EqAt.int_int a t' b t
    | str b => obtain ⟨t, rfl⟩ := rx; exact SeqAt.EqAt.int_str a t' b t
    | _ => exact absurd (show false = true from fx) Bool.false_ne_true
  | str a =>
    obtain ⟨t', rfl⟩ := ry
    cases x with
    | non => cases rx; exact SeqAt.EqAt.str_none a t'
    | bl b => cases rx; exact SeqAt.EqAt.str_bool a t' b
    | int b => obtain ⟨t, rfl⟩ := rx; exact SeqAt.EqAt.str_int a t' b t
    | str b => obtain ⟨t, rfl⟩ := rx; exact SeqAt.EqAt.str_str a t' b t
    | _ => exact absurd (show false = true from fx) Bool.false_ne_true
  | _ => exact absurd (show false = true from fy) Bool.false_ne_true
/-- the items' answers, read off the values (a value's own answer does not lean on its token) -/
def eqU (x : V) (u : Value) : Bool := match u with
  | .none => eqV .non x
  | .bool b => eqV (.bl b) x
  | .int i _ => eqV (.int i) x
  | .str z _ => eqV (.str z) x
  | _ => false
theorem eqU_of {x y : V} {u : Value} (r : RelV y u) (f : flatV y = true) : eqU x u = eqV y x := by
  cases y with
  | non => cases r; rfl
  | bl b => cases r; rfl
  | int i => obtain ⟨t, rfl⟩ := r; rfl
  | str z => obtain ⟨t, rfl⟩ := r; rfl
  | _ => exact absurd (show false = true from f) Bool.false_ne_true
theorem any_eqU {x : V} : ∀ {xs : List V} {us : List Value}, Vals xs us → xs.all flatV = true → us.any (eqU x) = xs.any fun y => eqV y x
  | _, _, .nil, _ => rfl
  | y :: xs, u :: us, .cons r t, f => by
    rw [List.all_cons, Bool.and_eq_true] at f
    rw [List.any_cons, List.any_cons, eqU_of r f.1, any_eqU t f.2]
theorem mem_eqAt {A : Around} {s : Shared} {x : V} {v : Value} (rx : RelV x v) (fx : flatV x = true) : ∀ {xs : List V} {us : List Value}, Vals xs us → xs.all flatV = true → ∀ u ∈ us, SeqAt.EqAt A s u v (eqU x u)
  | _, _, .nil, _ => fun u hu => by cases hu
  | y :: xs, u :: us, .cons r t, f => fun u' hu => by
    rw [List.all_cons, Bool.and_eq_true] at f
    rcases List.mem_cons.mp hu with rfl | hu
    · rw [eqU_of r f.1]; exact eqAt_V r rx f.1 fx
    · exact mem_eqAt rx fx t f.2 u' hu
def inV (x : V) (xs : List V) : Bool := xs.any fun y => eqV y x
/-- x in a list or tuple of flat items -/
def rIn (K : PySem.W.Frag) (neg : Bool) : R2 := fun x y H Q => ∃ p xs, y = .ref p ∧ (SqL K H p xs ∨ SqT K H p xs) ∧ flatV x = true ∧ xs.all flatV = true ∧ Q (.bl (if neg then !inV x xs else inV x xs)) H
theorem op_in_seq : OpR X (compareOp .In) (rIn X.K false) := by
  intro pins s σ H x y v u Q I rx ry h
  obtain ⟨p, xs, rfl, hq, fx, fs, q⟩ := h
  cases ry
  rcases hq with hq | hq
  · obtain ⟨its, r, pl, hz⟩ := I.list hq
    refine SeqAt.in_listAt (eqU x) pl.isList (fun w hw => mem_eqAt rx fx r fs w (by simpa using hw)) ⟨.bl _, H, I, rfl, ?_⟩
    rw [show its.toArray.any (eqU x) = its.any (eqU x) by simp, any_eqU r fs]
    exact q
  · obtain ⟨its, r, pl, hz⟩ := I.tuple hq
    refine SeqAt.in_tupleAt (eqU x) pl (fun w hw => mem_eqAt rx fx r fs w (by simpa using hw)) ⟨.bl _, H, I, rfl, ?_⟩
    rw [show its.toArray.any (eqU x) = its.any (eqU x) by simp, any_eqU r fs]
    exact q
/-! ### len, list(x), tuple(x) of any list or tuple that is read -/
theorem call_len_seq : CallR X (.builtin "len") (fun xs H Q => ∃ p ys, xs = [.ref p] ∧ (SqL X.K H p ys ∨ SqT X.K H p ys) ∧ Q (.int ys.length) H) := by
  intro pins s σ H xs us Q I r h
  obtain ⟨p, ys, rfl, hq, q⟩ := h
  obtain ⟨u, rfl, rx⟩ := vals1 r
  cases rx
  have hn := line63
  rcases hq with hq | hq
  · obtain ⟨its, r', pl, hz⟩ := I.list hq
    have hlen := r'.length
    exact Calls.call_len_list pl.isList (by simp only [List.size_toArray] <;> omega) ⟨.int ys.length, H, I.tok _, ⟨s.toks + 1, by rw [List.size_toArray, hlen]⟩, q⟩
  · obtain ⟨its, r', pl, hz⟩ := I.tuple hq
    have hlen := r'.length
    exact len_tuple pl (by simp only [List.size_toArray] <;> omega) ⟨.int ys.length, H, I.tok _, ⟨s.toks + 1, by rw [List.size_toArray, hlen]⟩, q⟩
theorem call_list_of : CallR X (.type "list") (fun xs H Q => ∃ p ys, xs = [.ref p] ∧ (SqL X.K H p ys ∨ SqT X.K H p ys) ∧ ∀ l, H l = none → Q (.ref l) (upd H l (.lst ys))) := by
  intro pins s σ H xs us Q I r h
  obtain ⟨p, ys, rfl, hq, q⟩ := h
  obtain ⟨u, rfl, rx⟩ := vals1 r
  cases rx
  have fin : ∀ (its : List Value), Vals ys its → ys.length ≤ sizeLine → ∀ (h' : Heap) (c' : Nat), (∀ b o', s.heap.get? b = some o' → h'.get? b = some o') →
      h'.get? s.heap.objs.size = some { cls := .type "list", dict := none, data := .seq its.toArray c', slots := #[] } → EP X pins σ Q (.ref s.heap.objs.size) { s with heap := h' } := fun its r' hz h' c' kp e =>
    ⟨.ref s.heap.objs.size, _, I.laid (t' := s.toks) kp (Nat.le_refl _) (show ObjOk X.prog X.w _ h' _ (.lst ys) from ⟨hz, its, c', r', e⟩), rfl, q _ (I.hok.fresh (Nat.le_refl _))⟩
  rcases hq with hq | hq
  · obtain ⟨its, r', pl, hz⟩ := I.list hq
    have hlen := r'.length
    obtain ⟨o, ho, hc, n, hd⟩ := pl.isList
    exact call_list_seq p (.inl rfl) ho hc hd (fun h' c' kp e => fin its r' hz h' c' kp e) (by simp only [List.size_toArray] <;> omega)
  · obtain ⟨its, r', pl, hz⟩ := I.tuple hq
    have hlen := r'.length
    obtain ⟨o, ho, hc, n, hd⟩ := pl
    exact call_list_seq p (.inr rfl) ho hc hd (fun h' c' kp e => fin its r' hz h' c' kp e) (by simp only [List.size_toArray] <;> omega)
/-! ### the call of a builtin's method: o.m(..) -/
/-- the value is of that builtin type -/
def tyV (K : PySem.W.Frag) (T : String) (x : V) (H : Hp) : Prop := match x with
  | .str _ => T = "str"
  | .int _ => T = "int"
  | .ref p => (T = "list" ∧ ∃ xs, SqL K H p xs) ∨ (T = "tuple" ∧ ∃ o, K.lookup p = some o ∧ o.cls = .type "tuple" ∧ o.dict = none) ∨
      (T = "dict" ∧ ((∃ kvs, H p = some (.dK kvs)) ∨ ∃ kvs, H p = some (.dT kvs))) ∨ (T = "set" ∧ ∃ S n, H p = some (.set S n))
  | _ => False
theorem tyV_is {pins : List (Addr × Obj)} {σ : St} {H : Hp} {s : Shared} {T : String} {x : V} {v : Value} (I : Inv X pins σ H s) (r : RelV x v) (ty : tyV X.K T x H) :
    s.TypeIs v T ∧ ∀ a, v = .ref a → ∃ ob, s.heap.get? a = some ob ∧ ob.dict = none := by
  cases x with
  | str z =>
    obtain ⟨t, rfl⟩ := r
    cases (show T = "str" from ty)
    exact ⟨typeIs_str s z t, fun _ e => nomatch e⟩
  | int i =>
    obtain ⟨t, rfl⟩ := r
    cases (show T = "int" from ty)
    exact ⟨typeIs_int s i t, fun _ e => nomatch e⟩
  | ref p =>
    cases r
    rcases ty with ⟨rfl, xs, hq⟩ | ⟨rfl, o, hk, hc, hd⟩ | ⟨rfl, hk⟩ | ⟨rfl, S, n, hk⟩
    · obtain ⟨its, _, pl, _⟩ := I.list hq
      refine ⟨pl.isList.typeIs, fun a e => ?_⟩
      cases e
      obtain ⟨o, n, e, c, hd, _⟩ := pl
      exact ⟨o, e, hd⟩
    · refine ⟨⟨o, I.kIn p o hk, hc⟩, fun a e => ?_⟩
      cases e
      exact ⟨o, I.kIn _ o hk, hd⟩
    · have z : ∃ o, s.heap.get? p = some o ∧ o.ExactDict := by
        rcases hk with ⟨kvs, hk⟩ | ⟨kvs, hk⟩
        · obtain ⟨_, _, _, _, o, _, _, e, ex, _⟩ := I.hok p _ hk
          exact ⟨o, e, ex⟩
        · obtain ⟨_, _, _, _, o, _, _, e, ex, _⟩ := I.hok p _ hk
          exact ⟨o, e, ex⟩
      obtain ⟨o, e, ex⟩ := z
      refine ⟨⟨o, e, ex.1⟩, fun a e2 => ?_⟩
      cases e2
      exact ⟨o, e, ex.2.1⟩
    · obtain ⟨o, _, _, _, e, ex, _⟩ := I.hok p _ hk
      refine ⟨⟨o, e, ex.1⟩, fun a e2 => ?_⟩
      cases e2
      exact ⟨o, e, ex.2.1⟩
  | _ => exact False.elim ty
def tBM0 (K : PySem.W.Frag) (T : String) (r : V → List V → Hp → VK → Prop) (to : TE) : TE := fun σ H Q => to σ H fun x H1 => tyV K T x H1 ∧ r x [] H1 Q
def tBM (K : PySem.W.Frag) (T : String) (r : V → List V → Hp → VK → Prop) (to : TE) (t : TA) : TE := fun σ H Q => to σ H fun x H1 => tyV K T x H1 ∧ t σ H1 fun xs H2 => r x xs H2 Q
variable {o e : Expr} {es : List Expr} {to : TE} {t : TA} {name : Str} {apos cpos : Pos} {T id : String} {r : V → List V → Hp → VK → Prop}
theorem pe_bm0 (pa : PlainAttrs T) (slot : Slot T name id) (hty : typeOf (.builtin id) = pure (.type "method_descriptor")) (hm : MtR X id r) (ho : PE X o to)
    (hbase : attributeBase o name X.env (eval o X.env) = eval o X.env := by rfl) (hline : (apos.endLine == cpos.line) = true := by rfl) : PE X (.Call (.Attribute o name apos) [] [] cpos) (tBM0 X.K T r to) := by
  intro pins s σ H Q I h
  refine wpAny_Call_method0_late hbase hline (thn (ho pins s σ H _ I h) fun v s1 ⟨x, H1, I1, r1, ty, q1⟩ => ?_)
  obtain ⟨h1, h2⟩ := tyV_is I1 r1 ty
  exact ⟨T, id, pa, slot, hty, h1, h2, Calls.callWith_builtin rfl (PySem.evalArgs_none (hm pins s1 σ H1 x [] v [] Q I1 r1 .nil q1))⟩
theorem pe_bm (pa : PlainAttrs T) (slot : Slot T name id) (hty : typeOf (.builtin id) = pure (.type "method_descriptor")) (hm : MtR X id r) (ho : PE X o to) (ha : PA X (e :: es) t)
    (hbase : attributeBase o name X.env (eval o X.env) = eval o X.env := by rfl)
    (hfew : ((backTo cpos (starEach (e :: es) X.env)).all (fun x => !x.1) && (backToKw cpos (keywordEach [] X.env)).all (fun x => x.1.isSome)
      && decide ((e :: es).length + ([] : List Keyword).length + (if ([] : List Keyword).isEmpty then 0 else 1) < 30)) = true := by rfl)
    (hline : (apos.endLine == cpos.line) = true := by rfl) (hs : starEach (e :: es) X.env = (false, eval e X.env) :: starEach es X.env := by rfl) (hplain : (backTo cpos (starEach es X.env)).any (·.1) = false := by rfl) :
    PE X (.Call (.Attribute o name apos) (e :: es) [] cpos) (tBM X.K T r to t) := by
  intro pins s σ H Q I h
  refine wpAny_Call_method_late hbase hfew hline rfl (thn (ho pins s σ H _ I h) fun v s1 ⟨x, H1, I1, r1, ty, q1⟩ => ?_)
  obtain ⟨h1, h2⟩ := tyV_is I1 r1 ty
  refine ⟨T, id, pa, slot, hty, h1, h2, ?_⟩
  have hA := ha cpos pins s1 σ H1 _ I1 q1
  rw [hs] at hA ⊢
  refine Calls.callWith_builtin (by show (false || (backTo cpos (starEach es X.env)).any (·.1)) = false; rw [hplain] <;> rfl) (Calls.evalArgs_plain ?_)
  exact thn hA fun us s2 ⟨vs, H2, I2, r2, q2⟩ => hm pins s2 σ H2 x vs v us Q I2 r1 r2 q2
/- xs.append(e), list.index on a module's tuple .. are MtR facts of 06m -/
end
end L2
namespace L2
open PySem PySem.Spec PyProof.Rows
def MtM (X : Cx) (id : String) (r : V → List V → Hp → VK → Prop) : Prop :=
  ∀ (pins : List (Addr × Obj)) (s : Shared) (σ : St) (H : Hp) (x : V) (xs : List V) (v : Value) (us : List Value) (Q : VK), Inv X pins σ H s → RelV x v → Vals xs us → r x xs H Q →
    wpAny (model X.prog X.w) X.A (call (.builtin id) (v :: us)) (EP X pins σ Q) X.xe s
/-! ### lists of values -/
theorem Vals.one : ∀ {x : V} {us : List Value}, Vals [x] us → ∃ u, us = [u] ∧ RelV x u
  | _, _, .cons r .nil => ⟨_, rfl, r⟩
theorem Vals.zero : ∀ {us : List Value}, Vals [] us → us = []
  | _, .nil => rfl
theorem Vals.dropLast {xs : List V} {us : List Value} (h : Vals xs us) : Vals xs.dropLast us.dropLast := by
  induction h with
  | nil => exact .nil
  | cons r t ih =>
    cases t with
    | nil => exact .nil
    | cons q t' => exact .cons r ih
theorem erase_last {α : Type} (l : List α) : l.eraseIdx (l.length - 1) = l.dropLast := by
  induction l with
  | nil => rfl
  | cons a r ih =>
    cases r with
    | nil => rfl
    | cons b r =>
      have e : (a :: b :: r).length - 1 = ((b :: r).length - 1) + 1 := by
        have h1 : (a :: b :: r).length = r.length + 2 := rfl
        have h2 : (b :: r).length = r.length + 1 := rfl
        omega
      rw [e, List.eraseIdx_cons_succ, ih]
      all_goals rfl
section
variable {X : Cx} {pins : List (Addr × Obj)} {σ : St} {H : Hp} {s : Shared} {l b : Addr} {xs ys zs : List V}
/-! ### the two steps: a tracked list is rewritten, a new list is laid -/
theorem Inv.lset {its its' : List Value} {n : Nat} {f : Array Value → Array Value} {t' : Nat} (I : Inv X pins σ H s) (hH : H l = some (.lst xs))
    (e : s.heap.get? l = some { cls := .type "list", data := .seq its.toArray n }) (hf : f its.toArray = its'.toArray) (hv : Vals ys its') (hz : ys.length ≤ sizeLine) :
    Inv X pins σ (upd H l (.lst ys)) { s with heap := s.heap.update l (Obj.mapSeq f), toks := t' } := by
  have q := PySem.IsL.update e f
  rw [hf] at q
  refine I.write (x := l) (e := l) (by rw [hH]; exact trivial) (.inl rfl) (fun b' u hb hu => (Heap.get?_update_other s.heap (Obj.mapSeq f) (Ne.symm hb)).trans hu) ⟨_, q⟩ ?_
  exact ⟨hz, its', _, hv, q⟩
theorem Inv.lnew {its : List Value} {t' : Nat} (I : Inv X pins σ H s) (hv : Vals ys its) (hz : ys.length ≤ sizeLine) :
    Inv X pins σ (upd H s.heap.objs.size (.lst ys)) { s with heap := s.heap.push { cls := .type "list", data := .seq its.toArray }, toks := t' } :=
  I.laid (fun _ _ q => Heap.get?_push_of_some _ q) (Nat.le_refl _) ⟨hz, its, 0, hv, Heap.get?_push_size _ rfl⟩
theorem Inv.fresh (I : Inv X pins σ H s) : H s.heap.objs.size = none := I.hok.fresh (Nat.le_refl _)
theorem Inv.lstM (I : Inv X pins σ H s) (hH : H l = some (.lst xs)) : xs.length ≤ sizeLine ∧ ∃ (its : List Value) (n : Nat), Vals xs its ∧ xs.length = its.length ∧ s.heap.get? l = some { cls := .type "list", data := .seq its.toArray n } := by
  obtain ⟨z, its, n, r, e⟩ := I.hok l _ hH
  exact ⟨z, its, n, r, r.length, e⟩
theorem notLongL {n : Nat} (h : n ≤ sizeLine) : Builtin.List.listTooLong n = false := by
  unfold Builtin.List.listTooLong
  exact decide_eq_false (by omega)
end
section
variable {X : Cx}
/-! ### methods -/
def rAppend : V → List V → Hp → VK → Prop := fun x vs H Q => ∃ l xs y, x = .ref l ∧ vs = [y] ∧ H l = some (.lst xs) ∧ xs.length < sizeLine ∧ Q .non (upd H l (.lst (xs ++ [y])))
theorem mt_append : MtM X "list.append" rAppend := by
  intro pins s σ H x vs v us Q I rx rv h
  obtain ⟨l, xs, y, rfl, rfl, hH, hz, q⟩ := h
  cases rx
  obtain ⟨u, rfl, ru⟩ := rv.one
  obtain ⟨z, its, n, r, hl, e⟩ := I.lstM hH
  refine call_meets F.slot_list_append ⟨_, e, rfl⟩ F.entry_list_append (F.args_list_append_2 _ _) (PySem.list_append l its.toArray n u (by rw [List.size_toArray]; omega)) ⟨e, ?_⟩
  refine ⟨.non, _, I.lset (its' := its ++ [u]) hH e (by simp) (r.append (.cons ru .nil)) ?_, rfl, q⟩
  rw [List.length_append, List.length_singleton]
  omega
def rExtend : V → List V → Hp → VK → Prop := fun x vs H Q => ∃ l b xs zs, x = .ref l ∧ vs = [.ref b] ∧ H l = some (.lst xs) ∧ H b = some (.lst zs) ∧ xs.length + zs.length ≤ sizeLine ∧ Q .non (upd H l (.lst (xs ++ zs)))
theorem mt_extend : MtM X "list.extend" rExtend := by
  intro pins s σ H x vs v us Q I rx rv h
  obtain ⟨l, b, xs, zs, rfl, rfl, hH, hB, hz, q⟩ := h
  cases rx
  obtain ⟨u, rfl, ru⟩ := rv.one
  cases ru
  obtain ⟨z, its, n, r, hl, e⟩ := I.lstM hH
  obtain ⟨z2, its2, n2, r2, hl2, e2⟩ := I.lstM hB
  have hsz : its.toArray.size + its2.toArray.size ≤ sizeLine := by rw [List.size_toArray, List.size_toArray]; omega
  have hlong : ¬ (!its.toArray.isEmpty && Builtin.List.listTooLong (its.toArray.size + its2.toArray.size)) = true := by
    rw [notLongL hsz, Bool.and_false]
    exact Bool.false_ne_true
  refine call_meets F.slot_list_extend ⟨_, e, rfl⟩ F.entry_list_extend (F.args_list_extend_2 _ _)
    (AutoSeq1.list_extend_list_list_0 l its.toArray n b its2.toArray n2 hlong (by rw [List.size_toArray]; omega) (by omega)) ⟨e, e2, ?_⟩
  refine ⟨.non, _, I.lset (its' := its ++ its2) hH e (by simp) (r.append r2) ?_, rfl, q⟩
  rw [List.length_append]
  omega
def rPop : V → List V → Hp → VK → Prop := fun x vs H Q => ∃ l xs y, x = .ref l ∧ vs = [] ∧ H l = some (.lst xs) ∧ xs[xs.length - 1]? = some y ∧ Q y (upd H l (.lst xs.dropLast))
theorem mt_pop : MtM X "list.pop" rPop := by
  intro pins s σ H x vs v us Q I rx rv h
  obtain ⟨l, xs, y, rfl, rfl, hH, hy, q⟩ := h
  cases rx
  have hus := rv.zero
  subst hus
  obtain ⟨z, its, n, r, hl, e⟩ := I.lstM hH
  obtain ⟨u, hu, ru⟩ := r.get hy
  have hy' : its.toArray[its.toArray.size - 1]? = some u := by
    show its.toArray[its.length - 1]? = some u
    rw [← Array.getElem?_toList, ← hl]
    exact hu
  refine call_meets F.slot_list_pop ⟨_, e, rfl⟩ F.entry_list_pop (F.args_list_pop_1 _) (MeetsSeq.list_pop_last l its.toArray n u hy' (by rw [List.size_toArray]; omega)) ⟨e, ?_⟩
  refine ⟨y, _, I.lset (its' := its.dropLast) hH e ?_ r.dropLast ?_, ru, q⟩
  · show its.toArray.eraseIdxIfInBounds (its.toArray.size - 1) = its.dropLast.toArray
    rw [List.size_toArray, List.eraseIdxIfInBounds_toArray, erase_last]
  · rw [List.length_dropLast]
    omega
/-! ### list + list, list += list, list * int -/
def rCat : R2 := fun x y H Q => ∃ l b xs zs, x = .ref l ∧ y = .ref b ∧ H l = some (.lst xs) ∧ H b = some (.lst zs) ∧ xs.length + zs.length ≤ sizeLine ∧ ∀ p, H p = none → Q (.ref p) (upd H p (.lst (xs ++ zs)))
theorem op_cat : OpR X (binaryOp .Add) rCat := by
  intro pins s σ H x y v u Q I rx ry h
  obtain ⟨l, b, xs, zs, rfl, rfl, hH, hB, hz, q⟩ := h
  cases rx
  cases ry
  obtain ⟨z, its, n, r, hl, e⟩ := I.lstM hH
  obtain ⟨z2, its2, n2, r2, hl2, e2⟩ := I.lstM hB
  refine PySem.P.add_list e e2 ?_ (by rw [List.size_toArray, List.size_toArray]; omega)
  have ea : its.toArray ++ its2.toArray = (its ++ its2).toArray := by simp
  rw [ea]
  exact ⟨.ref _, _, I.lnew (t' := s.toks) (r.append r2) (by rw [List.length_append]; omega), rfl, q _ I.fresh⟩
/-! ### del xs[i] -/
end
/-! ### xs[a:b] = ys -/
section
variable {prog : Program} {w : World} {A : Around} {E : Value → Shared → Prop} {s : Shared}
end
section
variable {X : Cx}
end
end L2
namespace L2
open PySem PySem.Spec PyProof.Rows
/-! ### the library's walks over a list of ints, kept objects alone -/
section
variable {prog : Program} {w : World} {A : Around} {E : Value → Shared → Prop} {s : Shared} {l : Addr} {its : List Value} {ns : List Int} {Q : Value → Shared → Prop}
end
/-! ### the calls, by values (CallR of 03t; MtR of 06l) -/
section
variable {X : Cx}
/-! sorted, sort (fewer than 64 items: the library's own bound) -/
end
/-! ### list.index, flat items -/
section
variable {X : Cx}
theorem flat_at {ys : List V} (f : ys.all flatV = true) {j : Nat} {z : V} (h : ys[j]? = some z) : flatV z = true := List.all_eq_true.mp f z (List.mem_of_getElem? h)
end
/-! ### type(x) of an own instance; is, is not of a module's class -/
section
variable {X : Cx}
end
/-! ### any(xs), all(xs) of a list of bools -/
section
variable {X : Cx}
end
/-! ### == and != of data at any depth: none, bools, ints, texts, lists, tuples -/
mutual
inductive Dp (K : PySem.W.Frag) (H : Hp) : V → PyData → Prop
  | non : Dp K H .non .none
  | bl (b : Bool) : Dp K H (.bl b) (.bool b)
  | int (i : Int) : Dp K H (.int i) (.int i)
  | str (x : Str) : Dp K H (.str x) (.str x)
  | lst {a : Addr} {xs : List V} {ds : List PyData} : SqL K H a xs → DpAll K H xs ds → Dp K H (.ref a) (.list ds)
  | tup {a : Addr} {xs : List V} {ds : List PyData} : SqT K H a xs → DpAll K H xs ds → Dp K H (.ref a) (.tuple ds)
inductive DpAll (K : PySem.W.Frag) (H : Hp) : List V → List PyData → Prop
  | nil : DpAll K H [] []
  | cons {v : V} {vs : List V} {d : PyData} {ds : List PyData} : Dp K H v d → DpAll K H vs ds → DpAll K H (v :: vs) (d :: ds)
end
section
variable {X : Cx} {pins : List (Addr × Obj)} {σ : St} {H : Hp} {s : Shared}
mutual
theorem Dp.reads (I : Inv X pins σ H s) : ∀ (d : PyData) (v : V) (u : Value), Dp X.K H v d → RelV v u → ∃ as, Reads s.heap u d as
  | .none, _, _, h, r => by
    cases h
    cases r
    exact ⟨_, Reads.none⟩
  | .bool b, _, _, h, r => by
    cases h
    cases r
    exact ⟨_, Reads.bool b⟩
  | .int i, _, _, h, r => by
    cases h
    obtain ⟨t, rfl⟩ := r
    exact ⟨_, Reads.int i t⟩
  | .str x, _, _, h, r => by
    cases h
    obtain ⟨t, rfl⟩ := r
    exact ⟨_, Reads.str x t⟩
  | .list ds, _, _, h, r => by
    cases h with
    | lst hs ha =>
      cases r
      obtain ⟨its, rv, ⟨o, n, ho, hc, _, hd⟩, _⟩ := I.list hs
      obtain ⟨as, hr⟩ := Dp.readsAll I ds _ its ha rv
      exact ⟨_, Reads.list ho hc hd hr⟩
  | .tuple ds, _, _, h, r => by
    cases h with
    | tup hs ha =>
      cases r
      obtain ⟨its, rv, ⟨o, ho, hc, n, hd⟩, _⟩ := I.tuple hs
      obtain ⟨as, hr⟩ := Dp.readsAll I ds _ its ha rv
      exact ⟨_, Reads.tuple ho hc hd hr⟩
  | .dict _, _, _, h, _ => by cases h
theorem Dp.readsAll (I : Inv X pins σ H s) : ∀ (ds : List PyData) (vs : List V) (us : List Value), DpAll X.K H vs ds → Vals vs us → ∃ as, ReadsAll s.heap us ds as
  | [], _, _, h, r => by
    cases h
    cases r
    exact ⟨_, ReadsAll.nil⟩
  | d :: ds, _, _, h, r => by
    cases h with
    | cons h1 h2 =>
      cases r with
      | cons r1 r2 =>
        obtain ⟨as, q1⟩ := Dp.reads I d _ _ h1 r1
        obtain ⟨bs, q2⟩ := Dp.readsAll I ds _ _ h2 r2
        exact ⟨_, ReadsAll.cons q1 q2⟩
end
end
section
variable {X : Cx}
end
end L2
namespace L2
open PySem PySem.Spec PyProof.Rows
abbrev CellAt (h : Heap) (c : Addr) (v : Option Value) : Prop := h.IsCell c v
def relS (scope sc : Scope) : Scope :=
  { scope with names := scope.names.map fun (n, k) => if (k == .free && sc.kind == .function && sc.names.lookup n == some .cell) then (n, .cell) else (n, k) }
def cloFrom (cells : List (Str × Addr)) : List (Str × NameKind) → List (Str × Addr) → List (Str × Addr)
  | [], acc => acc
  | (n, k) :: r, acc => if k == .free then cloFrom cells r ((n, (cells.lookup n).getD 0) :: acc) else cloFrom cells r acc
theorem closure_loop (env : Env) (f : Str × NameKind → List (Str × Addr) → Sem (ForInStep (List (Str × Addr))))
    (hf : ∀ n k c, f (n, k) c = if k == .free then (do let a ← cellOf env n; pure (.yield ((n, a) :: c))) else pure (.yield c)) :
    ∀ (names : List (Str × NameKind)) (acc : List (Str × Addr)), (∀ y ∈ names, y.2 = .free → ∃ c, env.cells.lookup y.1 = some c) → forIn names acc f = pure (cloFrom env.cells names acc)
  | [], acc, _ => by rw [List.forIn_nil]; rfl
  | (n, k) :: r, acc, h => by
    rw [List.forIn_cons, hf]
    have ih := fun acc => closure_loop env f hf r acc fun y hy => h y (List.mem_cons_of_mem _ hy)
    unfold cloFrom
    by_cases hk : (k == NameKind.free) = true
    · rw [if_pos hk, if_pos hk]
      obtain ⟨c, hc⟩ := h (n, k) List.mem_cons_self (by simpa using hk)
      have e : cellOf env n = pure c := by unfold cellOf; rw [hc]
      rw [e]
      have e2 : (env.cells.lookup n).getD 0 = c := by rw [hc]; rfl
      rw [e2]
      exact ih _
    · rw [if_neg hk, if_neg hk]
      exact ih _
theorem closure_ok {scope : Scope} {env : Env} (h : ∀ y ∈ scope.names, y.2 = .free → ∃ c, env.cells.lookup y.1 = some c) : closureFor scope env = pure (cloFrom env.cells scope.names []) := by
  simp only [closureFor]
  rw [closure_loop env _ (fun n k c => rfl) scope.names [] h]
  rfl
theorem mem_lookup {α : Type} : ∀ {l : List (Str × α)} {n : Str} {c : α}, (n, c) ∈ l → ∃ c', l.lookup n = some c'
  | (k, v) :: r, n, c, h => by
    rw [List.lookup_cons]
    cases hb : n == k with
    | true => exact ⟨_, rfl⟩
    | false =>
      rcases List.mem_cons.mp h with e | h
      · cases e; simp at hb
      · exact mem_lookup h
theorem cloFrom_mem {cells : List (Str × Addr)} : ∀ {names : List (Str × NameKind)} {acc : List (Str × Addr)} {n : Str} {c : Addr}, (n, c) ∈ cloFrom cells names acc → (n, c) ∈ acc ∨ ((n, .free) ∈ names ∧ c = (cells.lookup n).getD 0)
  | [], _, _, _, h => .inl h
  | (m, k) :: r, acc, n, c, h => by
    unfold cloFrom at h
    split at h
    · rename_i hk
      have hk : k = .free := by simpa using hk
      rcases cloFrom_mem h with h | ⟨h1, h2⟩
      · rcases List.mem_cons.mp h with e | h
        · cases e; exact .inr ⟨hk ▸ List.mem_cons_self, rfl⟩
        · exact .inl h
      · exact .inr ⟨List.mem_cons_of_mem _ h1, h2⟩
    · rcases cloFrom_mem h with h | ⟨h1, h2⟩
      · exact .inl h
      · exact .inr ⟨List.mem_cons_of_mem _ h1, h2⟩
theorem cloFrom_acc {cells : List (Str × Addr)} : ∀ {names : List (Str × NameKind)} {acc : List (Str × Addr)} {p : Str × Addr}, p ∈ acc → p ∈ cloFrom cells names acc
  | [], _, _, h => h
  | (m, k) :: r, acc, p, h => by
    unfold cloFrom
    split
    · exact cloFrom_acc (List.mem_cons_of_mem _ h)
    · exact cloFrom_acc h
theorem cloFrom_has {cells : List (Str × Addr)} : ∀ {names : List (Str × NameKind)} {acc : List (Str × Addr)} {n : Str}, (n, .free) ∈ names → (n, (cells.lookup n).getD 0) ∈ cloFrom cells names acc
  | (m, k) :: r, acc, n, h => by
    unfold cloFrom
    rcases List.mem_cons.mp h with e | h
    · cases e
      exact cloFrom_acc List.mem_cons_self
    · split
      · exact cloFrom_has h
      · exact cloFrom_has h
theorem cells_mem : ∀ {names : List (Str × NameKind)} {h : Heap} {acc : List (Str × Addr)} {x : Str} {c : Addr}, (x, c) ∈ cellsFrom h.objs.size names acc →
    (x, c) ∈ acc ∨ ((x, .cell) ∈ names ∧ h.objs.size ≤ c ∧ CellAt (pushCells h names) c none)
  | [], _, _, _, _, h => .inl h
  | (n, k) :: r, h, acc, x, c, hm => by
    unfold cellsFrom at hm
    unfold pushCells
    split at hm
    · rename_i hk
      rw [if_pos hk]
      have hk : k = .cell := by simpa using hk
      rw [← Heap.size_push h { cls := .type "cell", data := .cell none }] at hm
      rcases cells_mem hm with hm | ⟨h1, h2, h3⟩
      · rcases List.mem_cons.mp hm with e | hm
        · cases e
          exact .inr ⟨hk ▸ List.mem_cons_self, Nat.le_refl _, _, pushCells_keeps r _ _ _ (Heap.get?_push_size _ rfl), rfl⟩
        · exact .inl hm
      · rw [Heap.size_push] at h2
        exact .inr ⟨List.mem_cons_of_mem _ h1, Nat.le_of_succ_le h2, h3⟩
    · rename_i hk
      rw [if_neg hk]
      rcases cells_mem hm with hm | ⟨h1, h2, h3⟩
      · exact .inl hm
      · exact .inr ⟨List.mem_cons_of_mem _ h1, h2, h3⟩
theorem cells_acc : ∀ {names : List (Str × NameKind)} {n : Nat} {acc : List (Str × Addr)} {p : Str × Addr}, p ∈ acc → p ∈ cellsFrom n names acc
  | [], _, _, _, h => h
  | (m, k) :: r, n, acc, p, h => by
    unfold cellsFrom
    split
    · exact cells_acc (List.mem_cons_of_mem _ h)
    · exact cells_acc h
theorem cells_has : ∀ {names : List (Str × NameKind)} {n : Nat} {acc : List (Str × Addr)} {x : Str}, (x, .cell) ∈ names → ∃ c, (x, c) ∈ cellsFrom n names acc
  | (m, k) :: r, n, acc, x, h => by
    unfold cellsFrom
    rcases List.mem_cons.mp h with e | h
    · cases e
      exact ⟨n, cells_acc List.mem_cons_self⟩
    · split
      · exact cells_has h
      · exact cells_has h
theorem cells_inj : ∀ {names : List (Str × NameKind)} {h : Heap} {acc : List (Str × Addr)} {x y : Str} {c : Addr}, (∀ p ∈ acc, p.2 < h.objs.size) → (∀ x y c, (x, c) ∈ acc → (y, c) ∈ acc → x = y) →
    (x, c) ∈ cellsFrom h.objs.size names acc → (y, c) ∈ cellsFrom h.objs.size names acc → x = y
  | [], _, _, _, _, _, _, hi, h1, h2 => hi _ _ _ h1 h2
  | (n, k) :: r, h, acc, x, y, c, hl, hi, h1, h2 => by
    unfold cellsFrom at h1 h2
    split at h1
    · rename_i hk
      rw [if_pos hk] at h2
      rw [← Heap.size_push h { cls := .type "cell", data := .cell none }] at h1 h2
      refine cells_inj (h := h.push _) (fun p hp => ?_) (fun x y c a b => ?_) h1 h2
      · rw [Heap.size_push]
        rcases List.mem_cons.mp hp with rfl | hp
        · exact Nat.lt_succ_self _
        · exact Nat.lt_succ_of_lt (hl p hp)
      · rcases List.mem_cons.mp a with e | a <;> rcases List.mem_cons.mp b with e' | b
        · cases e; cases e'; rfl
        · cases e; exact absurd (hl _ b) (Nat.lt_irrefl _)
        · cases e'; exact absurd (hl _ a) (Nat.lt_irrefl _)
        · exact hi _ _ _ a b
    · rename_i hk
      rw [if_neg hk] at h2
      exact cells_inj hl hi h1 h2
theorem newEnv_comp {M : Model} {A : Around} {E : Value → Shared → Prop} {s : Shared} {scope : Scope} {globals : Addr} {closure : List (Str × Addr)} {qual : Str} {func : Option Addr} {code : Value} {around : Env} {builtins : Addr} {Q : Env → Shared → Prop}
    (h : Q (newEnv scope s.heap.objs.size globals (cellsFrom (s.heap.objs.size + 1) scope.names closure) qual func code (some around) builtins)
      { s with heap := pushCells (s.heap.push { cls := .type "dict", data := .dict #[] }) scope.names }) :
    wpAny M A (newFunctionEnv scope globals closure [] qual func code (some around) builtins) Q E s := by
  simp only [newFunctionEnv, Option.isSome_some, if_true]
  refine wpAny_bind (wpAny_alloc ?_)
  refine wpAny_bind (wpAny_layCells _ (fun n k c => rfl) scope.names closure _ _ ?_)
  rw [show ({ s with heap := s.heap.push { cls := .type "dict", data := .dict #[] } } : Shared).heap.objs.size = s.heap.objs.size + 1 from Heap.size_push ..]
  rw [List.forIn_nil]
  exact wpAny_bind (wpAny_pure (wpAny_pure h))
/-- every name of the written scope, in the scope that runs -/
theorem lookup_relS {sc : Scope} : ∀ {names : List (Str × NameKind)} {x : Str} {k : NameKind},
    (names.map fun (n, k) => if (k == NameKind.free && sc.kind == .function && sc.names.lookup n == some .cell) then (n, NameKind.cell) else (n, k)).lookup x = some k →
    ∃ k', names.lookup x = some k' ∧ (k = k' ∨ (k' = .free ∧ k = .cell))
  | [], _, _, h => by simp at h
  | (n, k₀) :: r, x, k, h => by
    have ih := @lookup_relS sc r x k
    have h' : List.lookup x ((if (k₀ == NameKind.free && sc.kind == .function && sc.names.lookup n == some .cell) = true then (n, NameKind.cell) else (n, k₀)) :: (r.map _)) = some k := h
    cases hx : x == n with
    | true =>
      simp only [List.lookup_cons, hx]
      by_cases hc : (k₀ == NameKind.free && sc.kind == .function && sc.names.lookup n == some .cell) = true
      · rw [if_pos hc] at h'
        simp only [List.lookup_cons, hx] at h'
        cases h'
        simp only [Bool.and_eq_true, beq_iff_eq] at hc
        exact ⟨k₀, rfl, .inr ⟨hc.1.1, rfl⟩⟩
      · rw [if_neg hc] at h'
        simp only [List.lookup_cons, hx] at h'
        cases h'
        exact ⟨_, rfl, .inl rfl⟩
    | false =>
      simp only [List.lookup_cons, hx]
      by_cases hc : (k₀ == NameKind.free && sc.kind == .function && sc.names.lookup n == some .cell) = true
      · rw [if_pos hc] at h'
        simp only [List.lookup_cons, hx] at h'
        exact ih h'
      · rw [if_neg hc] at h'
        simp only [List.lookup_cons, hx] at h'
        exact ih h'
/-- the names of a comprehension's block: its own (with their places in N), or captured -/
structure BlkOk (N : List Str) (sc scope : Scope) (own : List (Str × Nat)) : Prop where
  kind : scope.kind = .function
  uniq : ∀ y ∈ scope.names, scope.names.lookup y.1 = some y.2
  ix : ∀ p ∈ own, N[p.2]? = some p.1
  free : ∀ y ∈ scope.names, y.2 = .free → sc.names.lookup y.1 = some .cell ∨ sc.names.lookup y.1 = some .free
  own : ∀ y ∈ scope.names, y.2 = .local ∨ y.2 = .cell → y.1 ∈ own.map (·.1) ∨ y.1 ∉ N
/-- the slots of the block's own names forgotten -/
def wipe (σ : St) : List Nat → St
  | [] => σ
  | v :: vs => (wipe σ vs).set v none
theorem wipe_length (σ : St) : ∀ vs : List Nat, (wipe σ vs).length = σ.length
  | [] => rfl
  | v :: vs => by unfold wipe; rw [List.length_set, wipe_length σ vs]
theorem wipe_some {σ : St} {i : Nat} {x : V} : ∀ {vs : List Nat}, (wipe σ vs)[i]? = some (some x) → σ[i]? = some (some x) ∧ i ∉ vs
  | [], h => ⟨h, by simp⟩
  | v :: vs, h => by
    unfold wipe at h
    by_cases hi : v = i
    · subst hi
      by_cases hv : v < (wipe σ vs).length
      · rw [List.getElem?_set_self hv] at h; cases h
      · rw [List.getElem?_eq_none (by simpa using hv)] at h; cases h
    · rw [List.getElem?_set_ne hi] at h
      obtain ⟨h1, h2⟩ := wipe_some h
      exact ⟨h1, by simp only [List.mem_cons, not_or]; exact ⟨fun e => hi e.symm, h2⟩⟩
/-- the context of a block that starts at s, its iterator's objects at fp -/
abbrev Cx.blk (X : Cx) (s : Shared) (H : Hp) (scope : Scope) (cenv : Env) (fp : List Addr) : Cx := { X with s_0 := s, H_0 := H, env := cenv, outer := X.stack, ex := fp, fn := fun x => scope.names.lookup x == some .cell, pn := [], xe := fun _ _ => False }
section
variable {X : Cx} {pins : List (Addr × Obj)} {σ : St} {H : Hp} {s : Shared}
theorem block_start {scope : Scope} {own : List (Str × Nat)} {fp : List Addr} (I : Inv X pins σ H s) (ok : BlkOk X.N X.env.scope scope own) (hN : X.N.Nodup) (hfp : ∀ b ∈ fp, FpOk X pins H b ∧ b < s.heap.objs.size) :
    Inv (X.blk s H scope (compEnvC scope (cellsFrom (s.heap.objs.size + 1) scope.names (cloFrom X.env.cells scope.names [])) s.heap.objs.size X.env) fp) [] (wipe σ (own.map (·.2))) H { s with heap := pushCells (s.heap.push { cls := .type "dict", data := .dict #[] }) scope.names } := by
  have hfree : ∀ y ∈ scope.names, y.2 = .free → ∃ c, X.env.cells.lookup y.1 = some c := fun y hy e => by
    rcases ok.free y hy e with k | k
    · exact I.ok.has _ (.inl k)
    · exact I.ok.has _ (.inr k)
  generalize hcenv : compEnvC scope (cellsFrom (s.heap.objs.size + 1) scope.names (cloFrom X.env.cells scope.names [])) s.heap.objs.size X.env = cenv
  have kp : ∀ b o, s.heap.get? b = some o → (pushCells (s.heap.push { cls := .type "dict", data := .dict #[] }) scope.names).get? b = some o := fun b o e => pushCells_keeps _ _ _ _ (Heap.get?_push_of_some _ e)
  have hL : cenv.locals = s.heap.objs.size := by rw [← hcenv]; rfl
  have hcl : cenv.cells = cellsFrom (s.heap.objs.size + 1) scope.names (cloFrom X.env.cells scope.names []) := by rw [← hcenv]; rfl
  have hsc : cenv.scope = relS scope X.env.scope := by rw [← hcenv]; rfl
  rw [← Heap.size_push s.heap { cls := .type "dict", data := .dict #[] }] at hcl
  have cm : ∀ {y c}, (y, c) ∈ cloFrom X.env.cells scope.names [] → X.env.cells.lookup y = some c ∧ c < s.heap.objs.size := fun {y c} hm => by
    rcases cloFrom_mem hm with hm | ⟨h1, rfl⟩
    · cases hm
    · obtain ⟨c, hc⟩ := hfree _ h1 rfl
      rw [hc]
      obtain ⟨w, z⟩ := I.cell _ _ hc
      exact ⟨rfl, z.lt⟩
  have mem : ∀ {y c}, cenv.cells.lookup y = some c → (X.env.cells.lookup y = some c ∧ c < s.heap.objs.size) ∨ (s.heap.objs.size + 1 ≤ c ∧ CellAt (pushCells (s.heap.push { cls := .type "dict", data := .dict #[] }) scope.names) c none) := fun {y c} e => by
    rw [hcl] at e
    rcases cells_mem (PySem.mem_of_lookup e) with hm | ⟨_, h2, h3⟩
    · exact .inl (cm hm)
    · rw [Heap.size_push] at h2; exact .inr ⟨h2, h3⟩
  have look : ∀ {y}, scope.names.lookup y = some .free → ∃ c, cenv.cells.lookup y = some c ∧ X.env.cells.lookup y = some c := fun {y} hl => by
    have hy : (y, NameKind.free) ∈ scope.names := PySem.mem_of_lookup hl
    obtain ⟨c', e'⟩ := mem_lookup (cells_acc (names := scope.names) (n := (s.heap.push { cls := .type "dict", data := .dict #[] }).objs.size) (cloFrom_has (cells := X.env.cells) (acc := []) hy))
    rw [← hcl] at e'
    refine ⟨c', e', ?_⟩
    rw [hcl] at e'
    rcases cells_mem (PySem.mem_of_lookup e') with hm | ⟨h1, _, _⟩
    · exact (cm hm).1
    · have := ok.uniq _ h1
      rw [hl] at this; cases this
  have okB : (X.blk s H scope cenv fp).Ok := by
    refine ⟨I.ok.mod, by show cenv.scope.kind = _; rw [hsc]; exact ok.kind, by show cenv.globals = _; rw [← hcenv]; exact I.ok.glob, by show cenv.builtins = _; rw [← hcenv]; exact I.ok.blt, by show s.heap.objs.size ≤ cenv.locals; rw [hL]; exact Nat.le_refl _,
      fun y z c e1 e2 => ?_, fun y hy => ?_, fun y c z e => ?_, I.ok.hd, I.ok.frames, .inl rfl, fun b hb => ⟨?_, fun y c e z => ?_⟩, I.bs, Nat.le_trans I.ok.bsz I.sz, fun b o e hb => ?_, fun b hb z => ?_, I.stack, I.stkFree⟩
    · have e1 : cenv.cells.lookup y = some c := e1
      have e2 : cenv.cells.lookup z = some c := e2
      rw [hcl] at e1 e2
      refine cells_inj (fun p hp => ?_) (fun y z c a b => I.ok.inj y z c (cm a).1 (cm b).1) (PySem.mem_of_lookup e1) (PySem.mem_of_lookup e2)
      rw [Heap.size_push]
      exact Nat.lt_succ_of_lt (cm (y := p.1) (c := p.2) hp).2
    · show ∃ c, cenv.cells.lookup y = some c
      have key : ∀ k, cenv.kindOf y = some k → (k = .cell ∨ k = .free) → ∃ c, cenv.cells.lookup y = some c := fun k hk hk' => by
        unfold Env.kindOf at hk
        rw [hsc] at hk
        obtain ⟨k', e, r⟩ := lookup_relS hk
        have : k' = .cell ∨ k' = .free := by
          rcases r with rfl | ⟨rfl, _⟩
          · exact hk'
          · exact .inr rfl
        rcases this with rfl | rfl
        · obtain ⟨c, hm⟩ := cells_has (n := (s.heap.push { cls := .type "dict", data := .dict #[] }).objs.size) (acc := cloFrom X.env.cells scope.names []) (PySem.mem_of_lookup e)
          obtain ⟨c', e'⟩ := mem_lookup hm
          exact ⟨c', by rw [hcl]; exact e'⟩
        · obtain ⟨c, h1, _⟩ := look e
          exact ⟨c, h1⟩
      rcases hy with hy | hy
      · exact key _ hy (.inl rfl)
      · exact key _ hy (.inr rfl)
    · have z : (scope.names.lookup y == some NameKind.cell) = true := z
      have z : scope.names.lookup y = some .cell := by simpa using z
      have e : cenv.cells.lookup y = some c := e
      rw [hcl] at e
      rcases cells_mem (PySem.mem_of_lookup e) with hm | ⟨_, h2, _⟩
      · rcases cloFrom_mem hm with hm | ⟨h1, _⟩
        · cases hm
        · have q := ok.uniq _ h1
          rw [z] at q; cases q
      · rw [Heap.size_push] at h2
        exact Nat.le_of_succ_le h2
    · show b ≠ cenv.locals
      rw [hL]; exact Nat.ne_of_lt (hfp b hb).2
    · have e : cenv.cells.lookup y = some c := e
      rcases mem e with ⟨h1, _⟩ | ⟨h1, _⟩
      · exact (hfp b hb).1.2.2.2.2.1 y c h1 z
      · have h2 : s.heap.objs.size + 1 ≤ b := by rw [← z]; exact h1
        exact absurd (Nat.lt_of_lt_of_le (hfp b hb).2 (Nat.le_of_succ_le h2)) (Nat.lt_irrefl _)
    · rcases (hfp b hb).1.2.2.2.1 with z | z
      · exact I.ok.noex b o e z
      · exact absurd (Nat.lt_of_lt_of_le (Heap.lt_size e) (Nat.le_trans I.ok.bsz z)) (Nat.lt_irrefl _)
    · rcases List.mem_cons.mp (I.stkSub b z) with z | z
      · exact (hfp b hb).1.2.1 z
      · exact (hfp b hb).1.2.2.1 z
  refine ⟨okB, rfl, I.bare, Un.kept kp, ⟨fun _ => none, ?_, fun i y av e1 e2 e3 => ?_⟩, fun y c e => ?_, ?_, fun y c e => ?_, fun p hp => ?_, I.hok.kept kp, by rw [wipe_length]; exact I.len⟩
  · show Heap.Ns _ cenv.locals _
    rw [hL]
    exact Heap.Ns.keeps (Heap.Ns.new ..) fun b o e => pushCells_keeps _ _ _ _ e
  · obtain ⟨e2, hne⟩ := wipe_some e2
    have hfr : scope.names.lookup y = some .free ∧ (cenv.kindOf y = some .cell ∨ cenv.kindOf y = some .free) := by
      have key : ∀ k, cenv.scope.names.lookup y = some k → k = .local ∨ k = .cell ∨ k = .free → scope.names.lookup y = some .free ∧ (cenv.kindOf y = some .cell ∨ cenv.kindOf y = some .free) := fun k hk hk' => by
        have hk0 := hk
        rw [hsc] at hk
        obtain ⟨k', e, r⟩ := lookup_relS hk
        have no : ¬ (k' = .local ∨ k' = .cell) := fun hh => by
          rcases ok.own _ (PySem.mem_of_lookup e) hh with e' | e'
          · obtain ⟨p, hp, hpy⟩ := List.mem_map.mp e'
            have e3 := ok.ix p hp
            have : p.1 = y := hpy
            rw [this] at e3
            exact hne (List.mem_map.mpr ⟨p, hp, nodup_ix hN e3 e1⟩)
          · exact e' (List.mem_of_getElem? e1)
        rcases r with rfl | ⟨rfl, rfl⟩
        · rcases hk' with rfl | rfl | rfl
          · exact absurd (.inl rfl) no
          · exact absurd (.inr rfl) no
          · exact ⟨e, .inr hk0⟩
        · exact ⟨e, .inl hk0⟩
      have e3 : Vis cenv.scope y := e3
      rcases e3 with e3 | e3 | e3
      · exact key _ e3 (.inl rfl)
      · exact key _ e3 (.inr (.inl rfl))
      · exact key _ e3 (.inr (.inr rfl))
    obtain ⟨m, hn, hl⟩ := I.loc
    have hvis : Vis X.env.scope y := (ok.free _ (PySem.mem_of_lookup hfr.1) rfl).elim (fun k => .inr (.inl k)) (fun k => .inr (.inr k))
    obtain ⟨w, r, q⟩ := hl i y av e1 e2 hvis
    refine ⟨w, r, .inr ⟨hfr.2, ?_⟩⟩
    obtain ⟨c, h1, h2⟩ := look hfr.1
    rcases q with ⟨k, _⟩ | ⟨_, c', e', z⟩
    · have k : X.env.scope.names.lookup y = some .local := k
      rcases ok.free _ (PySem.mem_of_lookup hfr.1) rfl with k' | k' <;> rw [show X.env.scope.names.lookup y = _ from k'] at k <;> cases k
    · rw [h2] at e'; cases e'
      exact ⟨c, h1, z.keeps kp⟩
  · have e : cenv.cells.lookup y = some c := e
    rcases mem e with ⟨h1, _⟩ | ⟨_, z⟩
    · obtain ⟨w, z⟩ := I.cell y c h1
      exact ⟨w, z.keeps kp⟩
    · exact ⟨_, z⟩
  · show H cenv.locals = none
    rw [hL]; exact I.hok.fresh (Nat.le_refl _)
  · have e : cenv.cells.lookup y = some c := e
    rcases mem e with ⟨h1, _⟩ | ⟨h1, _⟩
    · exact I.freeC y c h1
    · exact I.hok.fresh (Nat.le_of_succ_le h1)
  · exact absurd (show p ∈ ([] : List (Addr × Obj)) ++ [] from hp) (by simp)
/-- an item appended to a tracked list -/
theorem app_ok {E : Value → Shared → Prop} {D : Addr} {xs : List V} {y : V} {v : Value} {Q : Value → Shared → Prop} (I : Inv X pins σ H s) (hD : H D = some (.lst xs)) (hz : xs.length < sizeLine) (r : RelV y v)
    (h : ∀ s', Inv X pins σ (upd H D (.lst (xs ++ [y]))) s' → Q .none s') : wpAny (model X.prog X.w) X.A (call (.builtin "list.append") [.ref D, v]) Q E s := by
  obtain ⟨hz', its, n, ri, e⟩ := I.hok D _ hD
  have hl := ri.length
  refine append_at (hsz := by rw [List.size_toArray]; omega) e fun h' sb ho' => ?_
  refine h { s with heap := h' } (I.write (t' := s.toks) (by rw [hD]; trivial) (.inl rfl) (fun b u hb q => (sb.2 b hb).trans q) ⟨_, ho'⟩ ⟨by rw [List.length_append]; exact hz, its ++ [v], n + 1, ri.append (.cons r .nil), ?_⟩)
  rw [ho']
  simp
/-- a clause's tests -/
def PTs (X : Cx) (ifs : List Expr) (t : TT) : Prop :=
  ∀ (pins : List (Addr × Obj)) (s : Shared) (σ : St) (H : Hp) (Q : Bool → Hp → Prop), Inv X pins σ H s → t σ H Q →
    wpAny (model X.prog X.w) X.A (forIn ifs true fun c r => if r = true then do let ok ← isTrue c X.env (eval c X.env); pure (ForInStep.yield ok) else pure (ForInStep.yield r)) (TP X pins σ Q) X.xe s
theorem pts_one {c : Expr} {t : TT} (h : PT X c t) : PTs X [c] t := fun pins s σ H Q I hw => wpAny_tests_one (h pins s σ H Q I hw)
end
theorem thnF {α : Type} {t : Sem α} {Q Q' : α → Shared → Prop} {M : Model} {A : Around} {E : Value → Shared → Prop} {s : Shared} (h : wpAny M A t Q (fun _ _ => False) s) (hQ : ∀ a s, Q a s → Q' a s) : wpAny M A t Q' E s := wpAny_mono h hQ fun _ _ z => False.elim z
/-- the loop of a list comprehension's block, the target of any form (codeAny_compLoop_tests asks a target that no tuple goes to; statement and proof follow it, PyProof/CompMap.lean:41-61, with the step letOwnedTupleGo kept) -/
theorem compLoop_any {prog : Program} {w : World} {A : Around} {R : Result → Shared → Prop} {s : Shared} {elt target iter : Expr} {ifs : List Expr} {scope : Scope} {pos : Pos} {it acc : Value} {env : Env} (I : Nat → Shared → Prop)
    (turn : ∀ n s, I n s → wpAny (model prog w) A (pyNext it) (fun r s₁ => match r with
      | none => R (.ok .next) s₁
      | some v => wpAny (model prog w) A (letOwnedTupleGo target it v) (fun _ s₁' => wpAny (model prog w) A (assign target env v) (fun _ s₂ =>
          wpAny (model prog w) A (forIn ifs true fun c r => if r = true then do let ok ← isTrue c env (eval c env); pure (ForInStep.yield ok) else pure (ForInStep.yield r)) (fun ok s₃ =>
            if ok = true then wpAny (model prog w) A (eval elt env) (fun x s₄ =>
              wpAny (model prog w) A (call (.builtin "list.append") [acc, x]) (fun _ s₅ => ∃ m, m < n ∧ I m s₅) (notedBy (model prog w) A env fun e s' => R (.error e) s') s₄) (notedBy (model prog w) A env fun e s' => R (.error e) s') s₃
            else ∃ m, m < n ∧ I m s₃) (notedBy (model prog w) A env fun e s' => R (.error e) s') s₂) (notedBy (model prog w) A env fun e s' => R (.error e) s') s₁') (notedBy (model prog w) A env fun e s' => R (.error e) s') s₁) (notedBy (model prog w) A env fun e s' => R (.error e) s') s)
    (n : Nat) (h : I n s) :
    codeAny (model prog w) A (.compLoop (.ListComp elt [⟨target, iter, ifs, 0⟩] scope pos) 0 it acc env) R s := by
  refine codeAny_loop rfl I (fun n s hI => ?_) n h
  show wpAny _ A ((compTurn (.ListComp elt [⟨target, iter, ifs, 0⟩] scope pos) 0 it acc env).onRaise (fun x => do noteFrame x env; theTreesLotGoes x)) _ _ s
  refine wpAny_noted ?_
  rw [compTurn_list]
  refine wpAny_bind (wpAny_standAt (wpAny_bind (wpAny_mono (turn n s hI) (fun r s₁ h₁ => ?_) fun _ _ h' => h')))
  cases r with
  | none => exact wpAny_pure h₁
  | some v =>
    refine wpAny_bind (wpAny_mono h₁ (fun _ s₁' h₁' => ?_) fun _ _ h' => h')
    refine wpAny_bind (wpAny_mono h₁' (fun _ s₂ h₂ => wpAny_bind (wpAny_mono h₂ (fun ok s₃ h₃ => ?_) fun _ _ h' => h')) fun _ _ h' => h')
    cases ok with
    | false => exact wpAny_pure ⟨rfl, h₃⟩
    | true =>
      exact wpAny_bind (wpAny_bind (wpAny_mono h₃ (fun x s₄ h₄ => wpAny_bind (wpAny_mono h₄ (fun _ s₅ h₅ => wpAny_pure (wpAny_pure ⟨rfl, h₅⟩)) fun _ _ h' => h')) fun _ _ h' => h'))
section
variable {X : Cx}
/-- [elt for target in iter if ..]: D the new list; W by the turn and a measure, Nx what a turn is to reach -/
def tLc (wi : TI) (g : TG) (tt : TT) (te : TE) (vs : List Nat) : TE := fun σ H Q => wi σ H fun J H1 => ∀ D, H1 D = none → ∃ W : Nat → Nat → Hp → Prop, (∃ m, W 0 m (upd H1 D (.lst []))) ∧ ∀ i m H, W i m H →
  (J.stop i H ∧ Q (.ref D) H) ∨ (J.go i H ∧ ∃ Nx : Hp → Prop, (∀ H', Nx H' → ∃ m', m' < m ∧ W (i + 1) m' H') ∧ ∀ x H', J.yld i H x H' → g x (wipe σ vs) H' fun σ2 H2 => wipe σ2 vs = wipe σ vs ∧ tt σ2 H2 fun b H3 =>
    if b = true then te σ2 H3 fun y H4 => ∃ acc, H4 D = some (.lst acc) ∧ acc.length < sizeLine ∧ Nx (upd H4 D (.lst (acc ++ [y]))) else Nx H3)
theorem lc_core {pins : List (Addr × Obj)} {s : Shared} {σ : St} {H : Hp} {Q : VK} {elt tg iter : Expr} {ifs : List Expr} {scope : Scope} {own : List (Str × Nat)} {pos pos' : Pos} {wi : TI} {g : TG} {tt : TT} {te : TE} {use : Option (Value → Sem Unit)} {Qf : Value → Shared → Prop}
    (hc : X.calm = true) (hN : X.N.Nodup) (I : Inv X pins σ H s) (hi : PI X tg iter wi) (ok : BlkOk X.N X.env.scope scope own)
    (hg : ∀ (s : Shared) (H : Hp) (C : Addr) (cl : List (Str × Addr)) (fp : List Addr), PG (X.blk s H scope (compEnvC scope cl C X.env) fp) tg g) (ht : ∀ (s : Shared) (H : Hp) (C : Addr) (cl : List (Str × Addr)) (fp : List Addr), PTs (X.blk s H scope (compEnvC scope cl C X.env) fp) ifs tt)
    (he : ∀ (s : Shared) (H : Hp) (C : Addr) (cl : List (Str × Addr)) (fp : List Addr), PE (X.blk s H scope (compEnvC scope cl C X.env) fp) elt te) (hs : ∀ x, foldedSetIterable iter X.env x = pure x)
    (h : tLc wi g tt te (own.map (·.2)) σ H Q)
    (hRR : ∀ D C s' m H', Inv X pins σ H' s' → Q (.ref D) H' → s'.heap.Ns C m → FpOk X pins H' C → compPost (model X.prog X.w) X.A X.xe use Qf (.ref D) C (.ok .next) s') :
    wpAny (model X.prog X.w) X.A (comprehension (.ListComp elt [⟨tg, iter, ifs, 0⟩] scope pos) scope X.env pos' (newList []) false (eval iter X.env) use) Qf X.xe s := by
  have hfree : ∀ y ∈ scope.names, y.2 = .free → ∃ c, X.env.cells.lookup y.1 = some c := fun y hy e => by
    rcases ok.free y hy e with k | k
    · exact I.ok.has _ (.inl k)
    · exact I.ok.has _ (.inr k)
  refine wpAny_comprehension_free (use := use) rfl hs (closure_ok hfree) ok.kind (fun y hy e => by rw [ok.uniq y hy, e])
    (thn (hi pins s σ H _ I h) fun xv s1 hx => thn hx fun itv s2 h2 => ?_)
  obtain ⟨it, fp, tn, J, H2, e, I2, T, st2, f2, q⟩ := h2
  subst e
  refine wpAny_newObj_type (newEnv_comp ?_) (by show 0 ≤ sizeLine; decide)
  generalize hD : s2.heap.objs.size = D
  have hDn : H2 D = none := I2.hok.fresh (Nat.le_of_eq hD)
  obtain ⟨W, ⟨m0, w0⟩, turn⟩ := q D hDn
  -- the new list
  generalize hs3 : ({ s2 with heap := s2.heap.push { cls := .type "list", data := .seq ([] : List Value).toArray } } : Shared) = s3
  have I3 : Inv X pins σ (upd H2 D (.lst [])) s3 := by
    rw [← hs3]
    refine I2.laid (t' := s2.toks) (fun b o e => Heap.get?_push_of_some _ e) (Nat.le_of_eq hD) ⟨Nat.zero_le _, [], 0, .nil, ?_⟩
    rw [← hD]
    exact Heap.get?_push_size _ rfl
  have h3 : s3.heap = s2.heap.push { cls := .type "list", data := .seq ([] : List Value).toArray } := by rw [← hs3]
  have sz : ∀ b ∈ fp, b < s2.heap.objs.size := fun b hb => by
    obtain ⟨o, e, _⟩ := T.obj _ _ st2 b hb
    exact Heap.lt_size e
  have f3 : ∀ b ∈ fp, FpOk X pins (upd H2 D (.lst [])) b ∧ b < s3.heap.objs.size := fun b hb => by
    have hlt := sz b hb
    refine ⟨⟨?_, (f2 b hb).2⟩, by rw [h3, Heap.size_push]; exact Nat.lt_succ_of_lt hlt⟩
    rw [upd_ne (by rw [← hD]; exact Nat.ne_of_lt hlt)]
    exact (f2 b hb).1
  have st3 : tn 0 s3.heap := T.keep _ _ _ st2 fun b _ o e => by rw [h3]; exact Heap.get?_push_of_some _ e
  have I4 := block_start I3 ok hN f3
  have pg := hg s3 (upd H2 D (.lst [])) s3.heap.objs.size (cellsFrom (s3.heap.objs.size + 1) scope.names (cloFrom X.env.cells scope.names [])) fp
  have pt := ht s3 (upd H2 D (.lst [])) s3.heap.objs.size (cellsFrom (s3.heap.objs.size + 1) scope.names (cloFrom X.env.cells scope.names [])) fp
  have pe := he s3 (upd H2 D (.lst [])) s3.heap.objs.size (cellsFrom (s3.heap.objs.size + 1) scope.names (cloFrom X.env.cells scope.names [])) fp
  show codeAny _ _ (.compStart (.ListComp elt [⟨tg, iter, ifs, 0⟩] scope pos) 0 (.ref it) (.ref D) (compEnvC scope (cellsFrom (s3.heap.objs.size + 1) scope.names (cloFrom X.env.cells scope.names [])) s3.heap.objs.size X.env)) (compPost (model X.prog X.w) X.A X.xe use Qf (.ref D) s3.heap.objs.size) { s3 with heap := pushCells (s3.heap.push { cls := .type "dict", data := .dict #[] }) scope.names }
  have nfp : ∀ b ∈ fp, (upd H2 D (.lst [])) b = none := fun b hb => (f3 b hb).1.1
  generalize hce : compEnvC scope (cellsFrom (s3.heap.objs.size + 1) scope.names (cloFrom X.env.cells scope.names [])) s3.heap.objs.size X.env = ce at I4 pg pt pe ⊢
  have cL : ce.locals = s3.heap.objs.size := by subst hce; rfl
  generalize hH3 : upd H2 D (.lst []) = H3 at I3 I4 pg pt pe w0 nfp f3
  generalize hs4 : ({ s3 with heap := pushCells (s3.heap.push { cls := .type "dict", data := .dict #[] }) scope.names } : Shared) = s4 at I4 ⊢
  have st4 : tn 0 s4.heap := T.keep _ _ _ st3 fun b _ o e => by rw [← hs4]; exact pushCells_keeps _ _ _ _ (Heap.get?_push_of_some _ e)
  have stat : ∀ {σ' : St} {H' : Hp} {s' : Shared}, Inv (X.blk s3 H3 scope ce fp) [] σ' H' s' → (∀ b ∈ fp, H' b = none) → ∀ b ∈ fp, FpOk (X.blk s3 H3 scope ce fp) [] H' b := fun {σ' H' s'} I' hn b hb =>
    ⟨hn b hb, (I'.ok.exf b hb).1, I'.ok.exfs b hb, .inl hb, fun x c e => (I'.ok.exf b hb).2 x c e, fun p hp => absurd (show p ∈ ([] : List (Addr × Obj)) ++ [] from hp) (by simp)⟩
  have loop : codeAny (model X.prog X.w) X.A (.compLoop (.ListComp elt [⟨tg, iter, ifs, 0⟩] scope pos) 0 (.ref it) (.ref D) ce) (compPost (model X.prog X.w) X.A X.xe use Qf (.ref D) s3.heap.objs.size) s4 := by
    refine compLoop_any (fun n s' => ∃ i H', Inv (X.blk s3 H3 scope ce fp) [] (wipe σ (own.map (·.2))) H' s' ∧ tn i s'.heap ∧ (∀ b ∈ fp, H' b = none) ∧ W i n H') ?_ m0 ⟨0, H3, I4, st4, nfp, w0⟩
    rintro n s5 ⟨i, H5, I5, st5, n5, w5⟩
    rcases turn i n H5 w5 with ⟨stop, qq⟩ | ⟨go, Nx, hNx, step⟩
    · have td := T.done (X.blk s3 H3 scope ce fp) rfl rfl rfl hc i [] s5 _ H5 (fun _ _ => False) I5 (stat I5 n5) st5 stop
      refine thnF td fun r s6 ⟨hr, I6⟩ => ?_
      subst hr
      -- back in the def's context
      have I7 : Inv X pins σ H5 s6 := I3.call' (ch := fp) I6.os I6.base I6.hok I6.bare fun b hb => ⟨(f3 b hb).1.2.2.2.1, (f3 b hb).1.2.1, (f3 b hb).1.2.2.2.2.1, (f3 b hb).1.2.2.2.2.2⟩
      have nC : H5 s3.heap.objs.size = none := by
        have z : H5 ce.locals = none := I6.free
        rw [cL] at z
        exact z
      obtain ⟨m, hn, _⟩ := I6.loc
      have hn : s6.heap.Ns ce.locals m := hn
      rw [cL] at hn
      exact hRR D s3.heap.objs.size s6 m H5 I7 qq hn (I3.fpOk (Nat.le_refl _) nC)
    · have ti := T.item (X.blk s3 H3 scope ce fp) rfl rfl rfl hc i [] s5 _ H5 (fun _ _ => False) I5 (stat I5 n5) st5 go
      refine thnF ti fun r s6 ⟨u, hr, h6⟩ => ?_
      subst hr
      refine thnF h6 fun _ s7 ⟨x, H7, I7, r7, y7, st7, n7⟩ => ?_
      have I7' := I7.pinned (stat I7 n7) (T.obj _ _ st7)
      refine thnF (pg _ s7 _ H7 x u _ I7' r7 (step x H7 y7)) fun _ s8 ⟨σ8, H8, I8, hw8, q8⟩ => ?_
      refine thnF (pt _ s8 σ8 H8 _ I8 q8) fun b s9 ⟨H9, I9, q9⟩ => ?_
      -- the turn's end
      have fin : ∀ {s' : Shared} {H' : Hp}, Inv (X.blk s3 H3 scope ce fp) ([] ++ pinsAt fp s7.heap) σ8 H' s' → Nx H' → ∃ m, m < n ∧ ∃ i H', Inv (X.blk s3 H3 scope ce fp) [] (wipe σ (own.map (·.2))) H' s' ∧ tn i s'.heap ∧ (∀ b ∈ fp, H' b = none) ∧ W i m H' := fun {s' H'} I' nx => by
        obtain ⟨m', hm, w'⟩ := hNx H' nx
        have pin' : ∀ b ∈ fp, ∀ o, s7.heap.get? b = some o → s'.heap.get? b = some o ∧ H' b = none := fun b hb o e =>
          let z := I'.pin (b, o) (List.mem_append_right _ (List.mem_append_right _ (mem_pinsAt hb e)))
          ⟨z.1, z.2.1⟩
        have hl : (wipe σ (own.map (·.2))).length = σ8.length := by rw [← hw8, wipe_length]
        refine ⟨m', hm, i + 1, H', (I'.unpinned (pins := [])).weak hl (fun j v e => ?_), T.keep _ _ _ st7 fun b hb o e => (pin' b hb o e).1, fun b hb => ?_, w'⟩
        · rw [← hw8] at e
          exact (wipe_some e).1
        · obtain ⟨o, e, _⟩ := T.obj _ _ st7 b hb
          exact (pin' b hb o e).2
      cases b with
      | false =>
        simp only [Bool.false_eq_true, if_false] at q9 ⊢
        exact fin I9 q9
      | true =>
        simp only [if_true] at q9 ⊢
        refine thnF (pe _ s9 σ8 H9 _ I9 q9) fun z s10 ⟨yv, H10, I10, r10, acc, hD10, hz10, nx⟩ => ?_
        exact app_ok (X := X.blk s3 H3 scope ce fp) I10 hD10 hz10 r10 fun s11 I11 => fin I11 nx
  exact codeAny_compStart_list loop (T.self X.A 0 _ _ _ st4 loop)
/-- name = [..] on one line, the name a local -/
theorem ps_setLc {i : Nat} {y : Str} {py : Pos} {elt tg iter : Expr} {ifs : List Expr} {scope : Scope} {own : List (Str × Nat)} {pos spos : Pos} {wi : TI} {g : TG} {tt : TT} {te : TE} (hc : X.calm = true) (hN : X.N.Nodup) (hy : X.N[i]? = some y) (hyl : X.env.scope.names.lookup y = some .local)
    (hsw : swapsWith (.ListComp elt [⟨tg, iter, ifs, 0⟩] scope pos) (some (.Name y py)) spos.line X.env = pure true) (hi : PI X tg iter wi) (ok : BlkOk X.N X.env.scope scope own)
    (hg : ∀ (s : Shared) (H : Hp) (C : Addr) (cl : List (Str × Addr)) (fp : List Addr), PG (X.blk s H scope (compEnvC scope cl C X.env) fp) tg g) (ht : ∀ (s : Shared) (H : Hp) (C : Addr) (cl : List (Str × Addr)) (fp : List Addr), PTs (X.blk s H scope (compEnvC scope cl C X.env) fp) ifs tt)
    (he : ∀ (s : Shared) (H : Hp) (C : Addr) (cl : List (Str × Addr)) (fp : List Addr), PE (X.blk s H scope (compEnvC scope cl C X.env) fp) elt te) (hs : ∀ x, foldedSetIterable iter X.env x = pure x := by intro _; rfl) :
    PS X (.Assign [.Name y py] (.ListComp elt [⟨tg, iter, ifs, 0⟩] scope pos) spos) (tAsg (tLc wi g tt te (own.map (·.2))) (gName i)) := by
  intro pins s σ H D I h
  rw [exec_Assign_Name_used _ _ _ _ hsw]
  refine wpAny_bind (wpAny_standAt (wpAny_bind ?_))
  show wpAny _ X.A (do let _ ← comprehension (.ListComp elt [⟨tg, iter, ifs, 0⟩] scope pos) scope X.env (firstIterPos [⟨tg, iter, ifs, 0⟩] pos) (newList []) false (eval iter X.env) (some (assign (.Name y py) X.env))) _ _ s
  have h : tLc wi g tt te (own.map (·.2)) σ H (fun x H1 => gName i x σ H1 D.nx) := h
  refine wpAny_bind (thn (lc_core (Qf := fun _ s' => SP X pins D .next s') hc hN I hi ok hg ht he hs h fun L C s' m H' I' q hn f => ?_) fun _ s' hq => wpAny_pure (wpAny_pure hq))
  show wpAny _ _ (assign (.Name y py) X.env (.ref L)) _ _ _
  refine wpAny_assign_Name (store_ok2 (v := V.ref L) I' hN hy (.inl hyl) rfl (fun s2 I2 ⟨a, sb, ha⟩ => ?_) (.inr hyl))
  obtain ⟨f0, f1, f2, f3, f4, f5⟩ := f
  have haC : C ≠ a := by
    rcases ha with z | z
    · rw [z]; exact f1
    · exact fun e => f4 y a z e.symm
  refine ⟨m, hn.sameBut sb haC, fun h3 sb3 => ?_⟩
  exact ⟨_, H', I2.turned (t' := s2.toks) (fun b o hb e => (sb3.2 b hb).trans e) f0 f1 f3 f4 f5, q⟩
theorem sw_true {elt : Expr} {gs : List Comprehension} {scope : Scope} {pos py : Pos} {y : Str} {l : Nat} {env : Env} (hk : env.scope.kind = .function) (hy : env.scope.names.lookup y = some .local) (hl : (py.line == pos.line) = true)
    (ha : (scope.names.any fun (n, k) => n == y && (k == .local || k == .cell)) = false) : swapsWith (.ListComp elt gs scope pos) (some (.Name y py)) l env = pure true := by
  have ky : env.kindOf y = some .local := hy
  have hb : env.blockKind = .function := by unfold Env.blockKind; rw [hk]; rfl
  unfold swapsWith
  simp only [hb, ky, ha, Expr.pos, hl]
  rfl
end
/-! ### the forms one uses -/
/-- over a tuple -/
theorem lc_tup {K : PySem.W.Frag} {a : Addr} {xs : List V} {g : TG} {tt : TT} {te : TE} {vs : List Nat} {σ : St} {H1 : Hp} {D : Addr} {Qd : Hp → Prop} (Pv : Nat → Hp → Prop) (h0 : Pv 0 (upd H1 D (.lst []))) (hl : ∀ i H, i ≤ xs.length → Pv i H → SqT K H a xs)
    (hs : ∀ i x H, xs[i]? = some x → Pv i H → g x (wipe σ vs) H fun σ2 H2 => wipe σ2 vs = wipe σ vs ∧ tt σ2 H2 fun b H3 =>
      if b = true then te σ2 H3 fun y H4 => ∃ acc, H4 D = some (.lst acc) ∧ acc.length < sizeLine ∧ Pv (i + 1) (upd H4 D (.lst (acc ++ [y]))) else Pv (i + 1) H3) (hd : ∀ H, Pv xs.length H → Qd H) :
    ∃ W : Nat → Nat → Hp → Prop, (∃ m, W 0 m (upd H1 D (.lst []))) ∧ ∀ i m H, W i m H →
      ((Itt K a).stop i H ∧ Qd H) ∨ ((Itt K a).go i H ∧ ∃ Nx : Hp → Prop, (∀ H', Nx H' → ∃ m', m' < m ∧ W (i + 1) m' H') ∧ ∀ x H', (Itt K a).yld i H x H' → g x (wipe σ vs) H' fun σ2 H2 => wipe σ2 vs = wipe σ vs ∧ tt σ2 H2 fun b H3 =>
        if b = true then te σ2 H3 fun y H4 => ∃ acc, H4 D = some (.lst acc) ∧ acc.length < sizeLine ∧ Nx (upd H4 D (.lst (acc ++ [y]))) else Nx H3) := by
  refine ⟨fun i m H => m = xs.length - i ∧ i ≤ xs.length ∧ Pv i H, ⟨xs.length, by simp, Nat.zero_le _, h0⟩, ?_⟩
  rintro i m H ⟨rfl, hi, p⟩
  have q := hl i H hi p
  by_cases hlt : i < xs.length
  · refine .inr ⟨⟨xs, xs[i], q, by simp [hlt]⟩, Pv (i + 1), fun H' p' => ⟨xs.length - (i + 1), by omega, rfl, hlt, p'⟩, fun x H' y => ?_⟩
    obtain ⟨e, y⟩ := y
    subst e
    exact hs i x _ (y xs q) p
  · have e : i = xs.length := by omega
    subst e
    exact .inl ⟨⟨xs, q, Nat.le_refl _⟩, hd H p⟩
def blkC (N : List Str) (sc scope : Scope) (own : List (Str × Nat)) : Bool :=
  (match scope.kind with | .function => true | _ => false) && (scope.names.all fun y => decide (scope.names.lookup y.1 = some y.2)) && (own.all fun p => decide (N[p.2]? = some p.1)) &&
    (scope.names.all fun y => match y.2 with
      | .free => (match sc.names.lookup y.1 with | some .cell => true | some .free => true | _ => false)
      | .local => decide (y.1 ∈ own.map (·.1)) || decide (y.1 ∉ N)
      | .cell => decide (y.1 ∈ own.map (·.1)) || decide (y.1 ∉ N)
      | _ => true)
theorem blkOk_by {N : List Str} {sc scope : Scope} {own : List (Str × Nat)} (h : blkC N sc scope own = true) : BlkOk N sc scope own := by
  unfold blkC at h
  simp only [Bool.and_eq_true, List.all_eq_true, decide_eq_true_eq] at h
  obtain ⟨⟨⟨h1, h2⟩, h3⟩, h4⟩ := h
  refine ⟨?_, h2, h3, fun y hy e => ?_, fun y hy e => ?_⟩
  · split at h1
    · assumption
    · cases h1
  · have q := h4 y hy
    simp only [e] at q
    split at q <;> first | exact .inl (by assumption) | exact .inr (by assumption) | cases q
  · have q := h4 y hy
    rcases e with e | e <;> (simp only [e, Bool.or_eq_true, decide_eq_true_eq] at q; exact q)
end L2
namespace L2
open PySem PySem.Spec PyProof.Rows
section
variable {prog : Program} {w : World} {A : Around} {R : Result → Shared → Prop} {s : Shared} {elt t0 i0 t1 i1 : Expr} {ifs0 ifs1 : List Expr} {scope : Scope} {pos : Pos} {it acc : Value} {env : Env}
end
section
variable {X : Cx}
end
end L2
namespace L2
open PySem PySem.Spec PyProof.Rows
/-! ### lists of pairs as tables -/
section
variable {κ : Type} [DecidableEq κ]
end
/-! ### a tracked dict, its keys ints and texts or tuples of these -/
section
variable {P : Program} {w : World} {H : Hp} {h : Heap} {a : Addr}
end
section
variable {X : Cx} {pins : List (Addr × Obj)} {σ : St} {H : Hp} {s : Shared} {a : Addr} {y v : V} {u r : Value} {o : Option V} {A : Around} {E : Value → Shared → Prop}
end
section
variable {X : Cx} {pins : List (Addr × Obj)} {σ : St} {H : Hp} {s : Shared} {a : Addr} {kvs : List (Key × V)} {k : Key} {u : Value} {A : Around} {E : Value → Shared → Prop}
end
/-! ### readings and rules -/
section
variable {X : Cx} {o i e value : Expr} {pos pos' tpos : Pos} {td ty tv : TE}
end
/-! ### displays -/
section
variable {X : Cx} {pos : Pos}
end
/-! ### methods -/
section
variable {X : Cx} {pins : List (Addr × Obj)} {σ : St} {H : Hp} {s : Shared} {a : Addr} {y d : V} {u r : Value} {o : Option V} {A : Around} {E : Value → Shared → Prop}
end
section
variable {X : Cx} {o e f : Expr} {apos cpos : Pos} {td ty tx : TE}
end
/-! ### dict(d): a copy -/
section
variable {X : Cx} {pins : List (Addr × Obj)} {σ : St} {H : Hp} {s : Shared} {a : Addr} {kvs : List (Key × V)} {A : Around} {E : Value → Shared → Prop}
end
section
variable {X : Cx} {pins : List (Addr × Obj)} {σ : St} {H : Hp} {s : Shared} {a : Addr} {y : V} {u : Value} {A : Around} {E : Value → Shared → Prop}
end
end L2
namespace L2
open PySem PySem.Spec PyProof.Rows
section
variable {prog : Program} {w : World} {A : Around} {E : Value → Shared → Prop}
end
section
variable {X : Cx}
end
end L2
namespace L2
open PySem PySem.Spec PyProof.Rows
section
variable {X : Cx} {pins : List (Addr × Obj)} {σ : St} {H : Hp} {s : Shared} {h' : Heap}
/-- several records of ours have turned -/
theorem Inv.turnedL {t' : Nat} {ch : List Addr} (I : Inv X pins σ H s) (k : ∀ b o, b ∉ ch → s.heap.get? b = some o → h'.get? b = some o) (hf : ∀ b ∈ ch, FpOk X pins H b) : Inv X pins σ H { s with heap := h', toks := t' } := by
  have nit : ∀ b u, H b = some u → b ∉ ch := fun b u e z => by
    have q := (hf b z).1
    rw [q] at e; cases e
  refine I.step (g' := s.gens) (d' := s.drawn) (ch := ch) (fun b hb => ⟨(hf b hb).2.2.2.1, (hf b hb).2.1, (hf b hb).2.2.2.2.1, (hf b hb).2.2.2.2.2⟩) (fun b o _ _ hc e _ => k b o hc e) (fun b o _ _ hc e _ => ⟨o.slots, k b o hc e⟩)
    (fun _ _ _ _ n => n) (fun b o hc e => ⟨o, k b o hc e⟩) (fun _ _ e => e) (fun _ _ _ e => e) (fun b ps e => ⟨#[], by rw [e]; simp⟩) (fun m hm => ?_) (fun b u e => ?_) I.bare
  · obtain ⟨o, es, ep, ho, r⟩ := hm
    exact ⟨o, es, ep, k _ o (fun z => (hf _ z).2.1 rfl) ho, r⟩
  · refine (I.hok b u e).stay (fun c v hc q => k c v ?_ q) (fun _ q => q) fun _ _ q => q
    rcases hc with z | z
    · rw [z]; exact nit b u e
    · exact nit c _ z
/-- .. and one new object is laid -/
theorem Inv.turnedNew {t' : Nat} {ch : List Addr} {T : Addr} {ob : HO} (I : Inv X pins σ H s) (k : ∀ b o, b ∉ ch → s.heap.get? b = some o → h'.get? b = some o) (hf : ∀ b ∈ ch, FpOk X pins H b) (hT : s.heap.objs.size ≤ T)
    (new : ObjOk X.prog X.w (upd H T ob) h' T ob) : Inv X pins σ (upd H T ob) { s with heap := h', toks := t' } := by
  have hn : H T = none := I.hok.fresh hT
  have nit : ∀ b u, H b = some u → b ∉ ch := fun b u e z => by
    have q := (hf b z).1
    rw [q] at e; cases e
  refine I.step (g' := s.gens) (d' := s.drawn) (ch := ch) (fun b hb => ⟨(hf b hb).2.2.2.1, (hf b hb).2.1, (hf b hb).2.2.2.2.1, (hf b hb).2.2.2.2.2⟩) (fun b o _ _ hc e _ => k b o hc e) (fun b o _ _ hc e _ => ⟨o.slots, k b o hc e⟩)
    (fun b o _ e n => ?_) (fun b o hc e => ⟨o, k b o hc e⟩) (fun b xs e => ?_) (fun b o u e => ?_) (fun b ps e => ⟨#[], ?_⟩) (fun m hm => ?_) (fun b u e => ?_) I.bare
  · rw [upd_ne (Nat.ne_of_lt (Nat.lt_of_lt_of_le (Heap.lt_size e) hT))]; exact n
  · rw [upd_ne (ne_of_none e hn)]; exact e
  · rw [upd_ne (ne_of_none e hn)]; exact e
  · rw [upd_ne (ne_of_none e hn), e]; simp
  · obtain ⟨o, es, ep, ho, r⟩ := hm
    exact ⟨o, es, ep, k _ o (fun z => (hf _ z).2.1 rfl) ho, r⟩
  · by_cases hb : b = T
    · subst hb
      rw [upd_same] at e
      cases e
      exact new
    · rw [upd_ne hb] at e
      refine (I.hok b u e).stay (fun c v hc q => k c v ?_ q) (fun c q => by rw [upd_ne (ne_of_none q hn)]; exact q) fun c xs q => by rw [upd_ne (ne_of_none q hn)]; exact q
      rcases hc with z | z
      · rw [z]; exact nit b u e
      · exact nit c _ z
/-! ### locking a thing while a statement runs -/
end
section
variable {X : Cx}
/-! ### one iterator just laid -/
end
/-! ### range with a step -/
section
variable {X : Cx} {tg : Expr}
end
/-! ### reversed(list) -/
section
variable {X : Cx} {tg : Expr}
end
/-! ### a str -/
/-! ### a dict's keys: any dict's entries -/
section
variable {prog : Program} {w : World} {A : Around} {E : Value → Shared → Prop} {s : Shared}
end
/-! ### a locked dict -/
section
variable {X : Cx} {pins : List (Addr × Obj)} {σ : St} {H : Hp} {s : Shared} {d : Addr} {o : Obj}
end
section
variable {P : Program} {w : World} {K : PySem.W.Frag} {tg : Expr} {d : Addr} {o : Obj} {es : Array DictEntry} {ep : Nat}
end
/-! ### for k in d, d.keys(), d.values(), d.items() -/
section
variable {X : Cx} {tg e : Expr} {td : TE} {apos cpos : Pos}
end
/-! ### enumerate(list) -/
/-- the list at a as it stands at each turn, each item in a new pair -/
def Ite (K : PySem.W.Frag) (a : Addr) : It :=
  ⟨fun i H => ∃ (xs : List V) (x : V), SqL K H a xs ∧ xs[i]? = some x, fun i H v H' => ∃ T x, v = .ref T ∧ H T = none ∧ H' = upd H T (.tup [.int (i : Nat), x]) ∧ ∀ xs, SqL K H a xs → xs[i]? = some x, fun i H => ∃ xs : List V, SqL K H a xs ∧ xs.length ≤ i⟩
theorem turn_enum {P : Program} {w : World} {K : PySem.W.Frag} {elts : List Expr} {kk : Nat} {tpos : Pos} (a e it : Addr) :
    Turn P w K (.Tuple elts kk tpos) (Ite K a) [e, it] e (fun i h => (∃ old, IsEnum h e it ((i : Nat) : Int) old) ∧ h.IsListIter it a i ∧ e ≠ it) where
  mem := by simp
  obj := fun i h st b hb => by
    obtain ⟨⟨old, he⟩, ⟨o, ho, hc, hd⟩, _⟩ := st
    have e' : b = e ∨ b = it := by simpa using hb
    rcases e' with z | z
    · rw [z]; exact ⟨_, he, fun v q => nomatch q⟩
    · rw [z]; exact ⟨o, ho, fun v q => by rw [hd] at q; cases q⟩
  keep := fun i h h' st k => let ⟨⟨old, he⟩, hi, hne⟩ := st; ⟨⟨old, k e (by simp) _ he⟩, hi.at fun o q => k it (by simp) o q, hne⟩
  item := by
    intro X hP hw hK hc i pins s σ H E I hf st hg
    subst hP hw hK
    obtain ⟨⟨old, he⟩, hit, hne⟩ := st
    obtain ⟨xs, x, hq, hx⟩ := hg
    obtain ⟨its, rv, p, hz⟩ := I.list hq
    obtain ⟨u, hu, ru⟩ := rv.get hx
    have hel : e < s.heap.objs.size := Heap.lt_size he
    have hil : it < s.heap.objs.size := by obtain ⟨_, q, _⟩ := hit; exact Heap.lt_size q
    refine wpAny_pyNext_enum_item he hit p.isList (x := u) (by simpa using hu) hne fun h' ho hit' hT hsz hk => ?_
    refine ⟨_, rfl, wpAny_letOwnedTupleGo_enum (s := { s with heap := h', toks := s.toks + 1 }) ho fun h'' he' sb => ?_⟩
    have hT2 : h''.get? s.heap.objs.size = some { cls := .type "tuple", data := .seq #[.int i s.toks, u] } := (sb.2 _ (Nat.ne_of_gt hel)).trans hT
    have new : ObjOk X.prog X.w (upd H s.heap.objs.size (.tup [.int (i : Nat), x])) h'' s.heap.objs.size (.tup [.int (i : Nat), x]) :=
      ⟨by show 2 ≤ sizeLine; decide, [.int i s.toks, u], .cons ⟨_, rfl⟩ (.cons ru .nil), ⟨_, hT2, rfl, _, rfl⟩⟩
    have I1 : Inv X pins σ (upd H s.heap.objs.size (.tup [.int (i : Nat), x])) { s with heap := h'', toks := s.toks + 1 } :=
      I.turnedNew (ch := [e, it]) (fun b ob hb q => (sb.2 b (fun z => hb (by simp [z]))).trans (hk b ob (fun z => hb (by simp [z])) (fun z => hb (by simp [z])) q)) hf (Nat.le_refl _) new
    refine ⟨.ref s.heap.objs.size, _, I1, rfl, ⟨_, x, rfl, I.hok.fresh (Nat.le_refl _), rfl, fun ys hy => by rw [I.list_inj hy hq]; exact hx⟩, ⟨⟨u, ?_⟩, hit'.at fun o q => (sb.2 it (Ne.symm hne)).trans q, hne⟩, fun b hb => ?_⟩
    · have e1 : ((i + 1 : Nat) : Int) = (i : Int) + 1 := by omega
      rw [e1]; exact he'
    · have hb' : b < s.heap.objs.size := by
        have e' : b = e ∨ b = it := by simpa using hb
        rcases e' with z | z
        · rw [z]; exact hel
        · rw [z]; exact hil
      rw [upd_ne (Nat.ne_of_lt hb')]
      exact (hf b hb).1
  done := by
    intro X hP hw hK hc i pins s σ H E I hf st hg
    subst hP hw hK
    obtain ⟨⟨old, he⟩, hit, hne⟩ := st
    obtain ⟨xs, hq, hx⟩ := hg
    obtain ⟨its, rv, p, hz⟩ := I.list hq
    obtain ⟨f0, f1, f2, f3, f4, f5⟩ := hf it (by simp)
    have hl := rv.length
    exact wpAny_pyNext_enum_end (I.ok.hd hc) he hit p.isList (by simp; omega) fun h' eb => ⟨rfl, I.turned (t' := s.toks) (fun b o hb q => eb b o hb q) f0 f1 f3 f4 f5⟩
  self := fun A i s Q E st h => let ⟨⟨_, he⟩, _⟩ := st; wpAny_pyIter_enum he h
def iEnum (K : PySem.W.Frag) (ta : TA) : TI := fun σ H R => ta σ H fun vs H1 => ∃ a xs, vs = [.ref a] ∧ SqL K H1 a xs ∧ R (Ite K a) H1
theorem pi_enum {X : Cx} {e : Expr} {ta : TA} {p pos tpos : Pos} {elts : List Expr} {kk : Nat} (hg : Gl X "enumerate") (hm : X.mg "enumerate" = none) (ha : PA X [e] ta) (hs : starEach [e] X.env = [(false, eval e X.env)] := by rfl) :
    PI X (.Tuple elts kk tpos) (.Call (.Name "enumerate" p) [e] [] pos) (iEnum X.K ta) := by
  intro pins s σ H R I h
  refine Call_ (ld_blt I hg hm boot_enumerate (PyProof.Rows.callWith_type1 (thn (ha pos pins s σ H _ I h) fun us s1 ⟨vs, H1, I1, r1, q1⟩ => ?_) hs rfl))
  obtain ⟨a, xs, ex, hq, q⟩ := q1
  subst ex
  cases r1 with
  | cons r rr =>
    cases rr
    cases r
    obtain ⟨its, rv, p', hz⟩ := I1.list hq
    refine call_enumerate_list p'.isList fun h' he hit hsz hk => wpAny_pyIter_enum he ?_
    have I2 : Inv X pins σ H1 { s1 with heap := h' } := I1.kept (t' := s1.toks) hk
    refine ⟨s1.heap.objs.size + 1, [s1.heap.objs.size + 1, s1.heap.objs.size], _, _, H1, rfl, I2, turn_enum a (s1.heap.objs.size + 1) s1.heap.objs.size, ⟨⟨.none, he⟩, hit, Nat.succ_ne_self _⟩, fun b hb => ?_, q⟩
    have e' : b = s1.heap.objs.size + 1 ∨ b = s1.heap.objs.size := by simpa using hb
    have hle : s1.heap.objs.size ≤ b := by
      rcases e' with z | z
      · rw [z]; exact Nat.le_add_right _ _
      · rw [z]; exact Nat.le_refl _
    exact I1.fpOk hle (I1.hok.fresh hle)
/-! ### zip(list, list) -/
theorem boot_zip5 : bootBuiltins "zip" = some (.type "zip") := by decide +kernel
/-- the lists at a and b as they stand at each turn, the items in new pairs -/
def Itz (K : PySem.W.Frag) (a b : Addr) : It :=
  ⟨fun i H => ∃ (xs ys : List V) (x y : V), SqL K H a xs ∧ SqL K H b ys ∧ xs[i]? = some x ∧ ys[i]? = some y,
    fun i H v H' => ∃ T x y, v = .ref T ∧ H T = none ∧ H' = upd H T (.tup [x, y]) ∧ (∀ xs, SqL K H a xs → xs[i]? = some x) ∧ ∀ ys, SqL K H b ys → ys[i]? = some y,
    fun i H => ∃ xs ys : List V, SqL K H a xs ∧ SqL K H b ys ∧ (xs.length ≤ i ∨ ys.length ≤ i)⟩
theorem turn_zip {P : Program} {w : World} {K : PySem.W.Frag} {elts : List Expr} {kk : Nat} {tpos : Pos} {a b z TI TO i1 i2 : Addr} (D : ZipApart z TI TO i1 i2 a b) :
    Turn P w K (.Tuple elts kk tpos) (Itz K a b) [z, TI, TO, i1, i2] z (fun i h => IsZip h z TI TO .none ∧ IsPair h TI (.ref i1) (.ref i2) ∧ (∃ x y, IsPair h TO x y) ∧ h.IsListIter i1 a i ∧ h.IsListIter i2 b i) where
  mem := by simp
  obj := fun i h st c hc => by
    obtain ⟨hz, hTI, ⟨x, y, hTO⟩, ⟨o1, e1, _, d1⟩, ⟨o2, e2, _, d2⟩⟩ := st
    have e' : c = z ∨ c = TI ∨ c = TO ∨ c = i1 ∨ c = i2 := by simpa using hc
    rcases e' with q | q | q | q | q
    · rw [q]; exact ⟨_, hz, fun v q => nomatch q⟩
    · rw [q]; exact ⟨_, hTI, fun v q => nomatch q⟩
    · rw [q]; exact ⟨_, hTO, fun v q => nomatch q⟩
    · rw [q]; exact ⟨o1, e1, fun v q => by rw [d1] at q; cases q⟩
    · rw [q]; exact ⟨o2, e2, fun v q => by rw [d2] at q; cases q⟩
  keep := fun i h h' st k => by
    obtain ⟨hz, hTI, ⟨x, y, hTO⟩, h1, h2⟩ := st
    exact ⟨k z (by simp) _ hz, k TI (by simp) _ hTI, ⟨x, y, k TO (by simp) _ hTO⟩, h1.at fun o q => k i1 (by simp) o q, h2.at fun o q => k i2 (by simp) o q⟩
  item := by
    intro X hP hw hK hc i pins s σ H E I hf st hg
    subst hP hw hK
    obtain ⟨hz, hTI, ⟨x0, y0, hTO⟩, h1, h2⟩ := st
    obtain ⟨xs, ys, x, y, hqx, hqy, hx, hy⟩ := hg
    obtain ⟨its, rv, p, _⟩ := I.list hqx
    obtain ⟨its2, rv2, p2, _⟩ := I.list hqy
    obtain ⟨u, hu, ru⟩ := rv.get hx
    obtain ⟨u2, hu2, ru2⟩ := rv2.get hy
    have hzl : z < s.heap.objs.size := Heap.lt_size hz
    refine wpAny_pyNext_zip_item D hz hTI hTO h1 h2 p.isList p2.isList (x := u) (y := u2) (by simpa using hu) (by simpa using hu2) fun h' z' TO' h1' h2' hT hsz hk => ?_
    refine ⟨_, rfl, wpAny_letOwnedTupleGo_zip (s := { s with heap := h' }) z' fun h'' z'' sb => ?_⟩
    have hT2 : h''.get? s.heap.objs.size = some { cls := .type "tuple", data := .seq #[u, u2] } := (sb.2 _ (Nat.ne_of_gt hzl)).trans hT
    have new : ObjOk X.prog X.w (upd H s.heap.objs.size (.tup [x, y])) h'' s.heap.objs.size (.tup [x, y]) :=
      ⟨by show 2 ≤ sizeLine; decide, [u, u2], .cons ru (.cons ru2 .nil), ⟨_, hT2, rfl, _, rfl⟩⟩
    have I1 : Inv X pins σ (upd H s.heap.objs.size (.tup [x, y])) { s with heap := h'' } :=
      I.turnedNew (t' := s.toks) (ch := [z, TI, TO, i1, i2]) (fun c o hb q => (sb.2 c (fun q' => hb (by simp [q']))).trans (hk c o (fun q' => hb (by simp [q'])) (fun q' => hb (by simp [q'])) (fun q' => hb (by simp [q'])) (fun q' => hb (by simp [q'])) q)) hf (Nat.le_refl _) new
    refine ⟨.ref s.heap.objs.size, _, I1, rfl, ⟨_, x, y, rfl, I.hok.fresh (Nat.le_refl _), rfl, fun l hl => by rw [I.list_inj hl hqx]; exact hx, fun l hl => by rw [I.list_inj hl hqy]; exact hy⟩, ⟨z'', ?_, ⟨u, u2, ?_⟩, ?_, ?_⟩, fun c hcm => ?_⟩
    · exact (sb.2 _ D.TIz).trans (hk _ _ D.TIz D.TITO D.TIi1 D.TIi2 hTI)
    · exact (sb.2 _ D.TOz).trans TO'
    · exact h1'.at fun o q => (sb.2 _ D.i1z).trans q
    · exact h2'.at fun o q => (sb.2 _ D.i2z).trans q
    · have hlt : c < s.heap.objs.size := by
        have e' : c = z ∨ c = TI ∨ c = TO ∨ c = i1 ∨ c = i2 := by simpa using hcm
        rcases e' with q | q | q | q | q
        · rw [q]; exact hzl
        · rw [q]; exact Heap.lt_size hTI
        · rw [q]; exact Heap.lt_size hTO
        · rw [q]; obtain ⟨_, e1, _⟩ := h1; exact Heap.lt_size e1
        · rw [q]; obtain ⟨_, e2, _⟩ := h2; exact Heap.lt_size e2
      rw [upd_ne (Nat.ne_of_lt hlt)]
      exact (hf c hcm).1
  done := by
    intro X hP hw hK hc i pins s σ H E I hf st hg
    subst hP hw hK
    obtain ⟨hz, hTI, ⟨x0, y0, hTO⟩, h1, h2⟩ := st
    obtain ⟨xs, ys, hqx, hqy, hend⟩ := hg
    obtain ⟨its, rv, p, _⟩ := I.list hqx
    obtain ⟨its2, rv2, p2, _⟩ := I.list hqy
    have l1 := rv.length
    have l2 := rv2.length
    have he : its.toArray[i]? = none ∨ its2.toArray[i]? = none := by
      rcases hend with q | q
      · exact .inl (by simp; omega)
      · exact .inr (by simp; omega)
    exact wpAny_pyNext_zip_end (I.ok.hd hc) D hz hTI hTO h1 h2 p.isList p2.isList he fun h' hk => ⟨rfl, I.turnedL (t' := s.toks) (ch := [z, TI, TO, i1, i2]) (fun c o hb q =>
      hk c o (fun q' => hb (by simp [q'])) (fun q' => hb (by simp [q'])) (fun q' => hb (by simp [q'])) (fun q' => hb (by simp [q'])) q) hf⟩
  self := fun A i s Q E st h => wpAny_pyIter_zip st.1 h
def iZip (K : PySem.W.Frag) (ta : TA) : TI := fun σ H R => ta σ H fun vs H1 => ∃ a b xs ys, vs = [.ref a, .ref b] ∧ SqL K H1 a xs ∧ SqL K H1 b ys ∧ R (Itz K a b) H1
theorem pi_zip {X : Cx} {e e2 : Expr} {ta : TA} {p pos tpos : Pos} {elts : List Expr} {kk : Nat} (hg : Gl X "zip") (hm : X.mg "zip" = none) (ha : PA X [e, e2] ta)
    (hs : starEach [e, e2] X.env = (false, eval e X.env) :: starEach [e2] X.env := by rfl) (hpl : (backTo pos (starEach [e2] X.env)).any (·.1) = false := by rfl) :
    PI X (.Tuple elts kk tpos) (.Call (.Name "zip" p) [e, e2] [] pos) (iZip X.K ta) := by
  intro pins s σ H R I h
  refine Call_ (ld_blt I hg hm boot_zip5 (PyProof.Rows.callWith_type1 (thn (ha pos pins s σ H _ I h) fun us s1 ⟨vs, H1, I1, r1, q1⟩ => ?_) hs hpl))
  obtain ⟨a, b, xs, ys, ex, hqx, hqy, q⟩ := q1
  subst ex
  cases r1 with
  | cons r rr =>
    cases rr with
    | cons r' rr =>
      cases rr
      cases r
      cases r'
      obtain ⟨its, rv, p1, _⟩ := I1.list hqx
      obtain ⟨its2, rv2, p2, _⟩ := I1.list hqy
      have la : a < s1.heap.objs.size := p1.lt
      have lb : b < s1.heap.objs.size := p2.lt
      refine call_zip_2 p1.isList p2.isList fun h' hz hTI hTO h1 h2 hsz hk => wpAny_pyIter_zip hz ?_
      have I2 : Inv X pins σ H1 { s1 with heap := h' } := I1.kept (t' := s1.toks) hk
      refine ⟨s1.heap.objs.size + 4, [s1.heap.objs.size + 4, s1.heap.objs.size + 2, s1.heap.objs.size + 3, s1.heap.objs.size, s1.heap.objs.size + 1], _, _, H1, rfl, I2, turn_zip (PySem.W.ktu_apart s1.heap.objs.size a b la lb), ⟨hz, hTI, ⟨_, _, hTO⟩, h1, h2⟩, fun c hcm => ?_, q⟩
      have e' : c = s1.heap.objs.size + 4 ∨ c = s1.heap.objs.size + 2 ∨ c = s1.heap.objs.size + 3 ∨ c = s1.heap.objs.size ∨ c = s1.heap.objs.size + 1 := by simpa using hcm
      have hle : s1.heap.objs.size ≤ c := by
        rcases e' with z | z | z | z | z
        · rw [z]; exact Nat.le_add_right _ _
        · rw [z]; exact Nat.le_add_right _ _
        · rw [z]; exact Nat.le_add_right _ _
        · rw [z]; exact Nat.le_refl _
        · rw [z]; exact Nat.le_add_right _ _
      exact I1.fpOk hle (I1.hok.fresh hle)
end L2
section 
namespace Bits
open PySem PyProof.Rows
end Bits
end 
section 
namespace TL
open PySem PySem.Builtin PySem.Builtin.Str PySem.StrLaws
abbrev tl (x : Str) : List Nat := x.cps.toList
/-! ### the list functions -/
/-- S stands at the head of l -/
def pre (S l : List Nat) : Bool := l.take S.length == S
/-- what stands before the first S, and behind it -/
def par (S : List Nat) : List Nat → List Nat → Option (List Nat × List Nat)
  | _, [] => none
  | acc, c :: r => if pre S (c :: r) = true then some (acc, (c :: r).drop S.length) else par S (acc ++ [c]) r
/-! ### the model's split and partition are these -/
/-! ### computing spl and par -/
/-! ### digits -/
/-! ### words: x.split() -/
end TL
end 
namespace L2
open PySem PySem.Spec PyProof.Rows
section
variable {X : Cx} {pins : List (Addr × Obj)} {σ : St} {H : Hp} {s : Shared} {Q : VK}
end
section
variable {X : Cx}
/-! ### of a text alone -/
/-! ### of a text and a text -/
end
section
variable {X : Cx} {o e : Expr} {to te : TE}
end
end L2
namespace L2
open PySem PySem.Spec PyProof.Rows
section
variable {X : Cx}
end
/-! ### slices of a text -/
end L2
namespace Att
open PySem PySem.W PySem.Calls PyProof.Rows
/-! ### the script -/
/-! ### the attachment: holds_open's last premise (the goal 'hc' behind k_head) from a wpAny of the law's body -/
/-! ### rules over ANY heap (no ledger) from facts about the written part K: the library's own take a ledger (News) for what they write -/
section
variable {prog : Program} {w : World} {A : Around} {E : Value → Shared → Prop} {s : Shared} {K : Frag}
/-! the whole heap as the ledger: makes every rule that writes through a ledger a rule over any heap -/
end
end Att
namespace L2
open PySem PySem.Spec PyProof.Rows
theorem vals_ints : ∀ {vs : List Value} {ns : List Int}, IntsAre vs ns → Vals (ns.map V.int) vs
  | _, _, .nil => .nil
  | _, _, .cons n t h => .cons ⟨t, rfl⟩ (vals_ints h)
/-- nothing is tracked but the script, known to the object (or it is an object of the module) -/
def Only (H : Hp) : Prop := ∀ b, H b = none ∨ ∃ o xs, H b = some (.frz o (.lst xs))
/-- THE HEAD: the law's promise, at the heap behind the top. F, the promise of the law's def, may use that base is part of the heap (so K.In base, base.Ns mainGlobals mg stand in Mod) -/
theorem law_call {P : Program} {w : World} {K : PySem.W.Frag} {mg mb : Str → Option Value} {CX : CXT} {k : Nat} {fa a : Addr} {fd : FuncData} {x : Str} {sp : Sp} {s₁ : Shared} {vs : List Value} {ns : List Int}
    (KX : K.In s₁.heap) (hns : s₁.heap.Ns mainGlobals mg) (hb : s₁.heap.Ns builtinsNs mb) (hbb : ∀ x : Str, x ≠ "__name__" → mb x = bootBuiltins x) (hlim : s₁.heap.NoLimit) (hg : s₁.gens = #[])
    (ha : s₁.heap.get? a = some { cls := .type "list", data := .seq vs.toArray }) (hi : IntsAre vs ns) (hl : ns.length ≤ sizeLine) (hr : Room k callerA)
    (F : ∀ base : Heap, K.In base → base.Ns mainGlobals mg → FnOk P w K mg base CX k fa fd [x] sp) (hbind : ∀ (s : Shared) (u : Value), BindsTo s fd ⟨[u], []⟩ [(x, u)])
    (hsp : ∀ H : Hp, Only H → SqL K H a (ns.map V.int) → sp [.ref a] H (fun v _ => v = .bl true) fun _ _ _ => False)
    (hCX : ∀ H e s', CX [] H s₁ (fun _ _ _ => False) e s' → False) :
    codeAny (model P w) callerA (.call (.ref fa) ⟨[.ref a], []⟩) (fun r s' => r = .ok (.ret (.bool true)) ∧ OldK s₁.heap s'.heap ∧ s'.os = s₁.os ∧ AllBare s'.gens) s₁ := by
  have rv := vals_ints hi
  have lenV := hi.length
  -- from an abstract heap in which nothing but the script may be tracked
  have core : ∀ H : Hp, Only H → SqL K H a (ns.map V.int) → HOk P w H s₁.heap → (∀ b, H b ≠ none → b = a) → (H a ≠ none → K.lookup a = none) →
      codeAny (model P w) callerA (.call (.ref fa) ⟨[.ref a], []⟩) (fun r s' => r = .ok (.ret (.bool true)) ∧ OldK s₁.heap s'.heap ∧ s'.os = s₁.os ∧ AllBare s'.gens) s₁ := by
    intro H hO hS hok hA hK
    have base_of : ∀ {b : Addr} {o : Obj}, s₁.heap.get? b = some o → H b = none → (hidT s₁.heap H).get? b = some o := fun e n => hidT_get e n
    have noA : ∀ {b : Addr} {o : Obj} {es : Array DictEntry} {ep : Nat}, s₁.heap.get? b = some o → o.data = .dict es ep → H b = none := fun {b o es ep} e d => by
      cases q : H b with
      | none => rfl
      | some u =>
        have e' : b = a := hA b (by rw [q]; simp)
        subst e'
        rw [ha] at e; cases e
        have d' : Data.seq vs.toArray _ = Data.dict es ep := d
        cases d'
    have nsK : ∀ {b : Addr} {m : Str → Option Value}, s₁.heap.Ns b m → (hidT s₁.heap H).Ns b m := fun {b m} ⟨o, es, ep, e, d, r⟩ => ⟨o, es, ep, base_of e (noA e d), d, r⟩
    have hKb : K.In (hidT s₁.heap H) := fun b o e => base_of (KX b o e) (by
      cases q : H b with
      | none => rfl
      | some u =>
        have e' : b = a := hA b (by rw [q]; simp)
        subst e'
        rw [hK (by rw [q]; simp)] at e; cases e)
    have hM : Mod K mg (hidT s₁.heap H) := ⟨hKb, nsK hns, ⟨mb, nsK hb, hbb⟩, let ⟨mc, h1, h2⟩ := hlim; ⟨mc, nsK h1, h2⟩⟩
    have e0 : Env0 P w K mg (hidT s₁.heap H) callerA [] s₁ H := ⟨rfl, hM, fun b o e => of_hidT e, Nat.le_of_eq (hidT_size _ _), trivial, fun b hb => absurd (show b ∈ ([] : List Addr) from hb) (by simp), hok, .of_eq hg⟩
    refine codeAny_mono ((F _ hKb (nsK hns)).run callerA [] s₁ H ⟨[.ref a], []⟩ [.ref a] [.ref a] _ _ hr e0 (hbind s₁ (.ref a)) (.cons rfl .nil) (hsp H hO hS)) fun r s' h => ?_
    cases r with
    | error e => exact (hCX H e s' h).elim
    | ok fl =>
      cases fl with
      | next => exact False.elim h
      | brk => exact False.elim h
      | cont => exact False.elim h
      | ret u =>
        obtain ⟨v, H', os, bare, un, hok', r', q⟩ := h
        have q' : v = .bl true := q
        subst q'
        obtain rfl : u = Value.bool true := r'
        refine ⟨rfl, OldK.of_keep fun b o e => ?_, os, bare⟩
        cases q : H b with
        | none => exact un.keep b o e q (by intro z; exact absurd (show b ∈ ([] : List Addr) from z) (by simp)) (by simp)
        | some u =>
          rcases hO b with z | ⟨ob, xs, z⟩
          · rw [q] at z; cases z
          · have z2 := un.frzs b ob _ z
            obtain ⟨e1, _⟩ := hok b _ z
            obtain ⟨e2, _⟩ := hok' b _ z2
            rw [e] at e1; cases e1
            exact e2
  cases hk : K.lookup a with
  | some o =>
    -- the script is one of the module's own objects
    have e := KX a o hk
    rw [ha] at e
    cases e
    refine core (fun _ => none) (fun _ => .inl rfl) (.inr ⟨_, vs.toArray, _, hk, rfl, rfl, rfl, by rw [List.size_toArray, lenV]; exact hl, by simpa using rv⟩) (fun b u z => by have z' : (none : Option HO) = some u := z; cases z') (fun b z => absurd rfl z) fun z => absurd rfl z
  | none =>
    refine core (fun b => if b = a then some (.frz { cls := .type "list", data := .seq vs.toArray } (.lst (ns.map V.int))) else none) (fun b => ?_) (.inl (.inr ⟨{ cls := .type "list", data := .seq vs.toArray }, if_pos rfl⟩)) (fun b u z => ?_) (fun b z => ?_) fun _ => hk
    · by_cases hb : b = a
      · exact .inr ⟨_, _, if_pos hb⟩
      · exact .inl (if_neg hb)
    · by_cases hb : b = a
      · have z' := (if_pos hb).symm.trans z
        cases z'
        subst hb
        exact ⟨ha, by rw [List.length_map]; exact hl, vs, _, rv, ha⟩
      · have z' := (if_neg hb).symm.trans z
        cases z'
    · by_cases hb : b = a
      · exact hb
      · exact absurd (if_neg hb) z
end L2
namespace L2
open PySem PySem.Spec PyProof.Rows
end L2
/-! SHORT WORDS over the layer: a def of the text, its body, what a loop and a test want. -/
namespace L2
open PySem PySem.Spec PyProof.Rows
/-! ### the text by places -/
/-- the j-th statement of a class's body -/
def inClass (s : Stmt) (j : Nat) : Stmt := match s with
  | .ClassDef _ _ _ body _ _ _ _ _ _ _ => body.getD j (.Pass ⟨0, 0, 0, 0⟩)
  | _ => .Pass ⟨0, 0, 0, 0⟩
def defArgs (s : Stmt) : Arguments := match s with
  | .FunctionDef _ a _ _ _ _ _ _ _ _ => a
  | _ => { posonlyargs := [], args := [], vararg := none, kwonlyargs := [], kw_defaults := [], kwarg := none, defaults := [] }
def defBody (s : Stmt) : List Stmt := match s with
  | .FunctionDef _ _ b _ _ _ _ _ _ _ => b
  | _ => []
def defScope (s : Stmt) : Scope := match s with
  | .FunctionDef _ _ _ _ _ _ sc _ _ _ => sc
  | _ => { kind := .function, names := [], isGenerator := false, isCoroutine := false }
/-! ### no exception leaves a def -/
abbrev CX0 : CXT := fun _ _ _ _ _ _ => False
abbrev E0 : XK := fun _ _ _ => False
theorem pass0 {X : Cx} : Passes CX0 X E0 := fun _ _ _ _ _ _ _ h => h.elim
/-! ### a def (or method) of the text as it stands behind the top -/
structure Fun (K : PySem.W.Frag) (x qual : Str) (st : Stmt) (f : Addr) (fd : FuncData) : Prop where
  ex : ∃ (oc : Value) (od : Option Addr) (kV doc pm : Value) (an : Option Addr) (cdv ct : Value) (osl : Array (Option Value)),
    fd = PySem.W.fnOf x qual (defArgs st) (defBody st) (defScope st) .none kV doc pm an cdv ct ∧ K.lookup f = some ⟨oc, od, .func fd, osl⟩ ∧ PySem.W.codeIn K cdv qual = true
  kp : PySem.W.keepIn K (.ref f) = true
section
variable {P : Program} {w : World} {K : PySem.W.Frag} {mg : Str → Option Value} {base : Heap}
/-- THE RULE for a def: its body as a term of rules, and the reading of that term -/
theorem Fun.ok {x qual : Str} {st : Stmt} {f : Addr} {fd : FuncData} {N ps : List Str} {k : Nat} {sp : Sp} (F : Fun K x qual st f fd) (S : FnScope N ps (defScope st)) (len : ∀ vs H Q E, sp vs H Q E → vs.length = ps.length)
    (hbody : ∀ (cdv : Value) (A : Around) (outer : List Env) (s : Shared) (H : Hp) (vs : List V) (Q : VK) (E : XK), Room k (A.deeper (envOfC qual (defScope st) s.heap.objs.size f cdv)) → sp vs H Q E →
      ∃ t, PSs (cxOf CX0 P w K mg base N qual (defScope st) f cdv A outer s H E).nox (defBody st) t ∧ t { nx := fun _ H' => Q .non H', rt := Q } (start N vs) H) : FnOk P w K mg base CX0 (k + 1) f fd ps sp := by
  obtain ⟨oc, od, kV, doc, pm, an, cdv, ct, osl, rfl, lk, hcd⟩ := F.ex
  refine fn_of lk hcd S len fun A outer s H vs Q E hr hsp => ?_
  obtain ⟨t, h, q⟩ := hbody cdv A outer s H vs Q E hr hsp
  exact ⟨t, h.nox, q⟩
/-- how its arguments bind (no defaults): h is «fun _ _ _ _ _ _ us hl => match us, hl with | [_, _], _ => rfl», one _ a parameter -/
theorem Fun.binds {x qual : Str} {st : Stmt} {f : Addr} {fd : FuncData} {ps : List Str} (F : Fun K x qual st f fd)
    (h : ∀ (kV doc pm : Value) (an : Option Addr) (cdv ct : Value) (us : List Value), us.length = ps.length → bindArgs (PySem.W.fnOf x qual (defArgs st) (defBody st) (defScope st) .none kV doc pm an cdv ct) ⟨us, []⟩ = pure (ps.zip us)) : Binds K fd ps [] := by
  obtain ⟨oc, od, kV, doc, pm, an, cdv, ct, osl, rfl, lk, hcd⟩ := F.ex
  exact .all (h kV doc pm an cdv ct)
theorem fun_mk {x qual : Str} {st : Stmt} {f : Addr} {oc : Value} {od an : Option Addr} {osl : Array (Option Value)} {kV doc pm cdv ct : Value} (l : K.lookup f = some ⟨oc, od, .func (PySem.W.fnOf x qual (defArgs st) (defBody st) (defScope st) .none kV doc pm an cdv ct), osl⟩)
    (c : PySem.W.codeIn K cdv qual = true) (k : PySem.W.keepIn K (.ref f) = true) : Fun K x qual st f (PySem.W.fnOf x qual (defArgs st) (defBody st) (defScope st) .none kV doc pm an cdv ct) := ⟨⟨oc, od, kV, doc, pm, an, cdv, ct, osl, rfl, l, c⟩, k⟩
end
/-! ### expressions in short: the name that stands in the i-th slot -/
section
variable {X : Cx}
theorem pv (i : Nat) {x : Str} {pos : Pos} (hN : X.N[i]? = some x := by rfl) (hv : Vis X.env.scope x := by first | exact Or.inl rfl | exact Or.inr (Or.inl rfl) | exact Or.inr (Or.inr rfl)) (hd : (x == ("__debug__" : Str)) = false := by decide)
    (hcd : (x == ("__classdict__" : Str)) = false := by decide) : PE X (.Name x pos) (tVar i) := pe_var hN hv hd hcd
end
/-! ### tests -/
theorem ite2 {c A B : Prop} [Decidable c] (h1 : c → A) (h2 : ¬ c → B) : if c then A else B := by
  by_cases h : c
  · rw [if_pos h]
    exact h1 h
  · rw [if_neg h]
    exact h2 h
/-! ### heaps -/
/-- all that was tracked is as it was -/
def Same (H H' : Hp) : Prop := ∀ b o, H b = some o → H' b = some o
theorem Same.refl (H : Hp) : Same H H := fun _ _ h => h
theorem Same.trans {H H1 H2 : Hp} (a : Same H H1) (b : Same H1 H2) : Same H H2 := fun c o h => b c o (a c o h)
theorem Same.free {H H' : Hp} (e : Same H H') {l : Addr} (h : H' l = Option.none) : H l = Option.none := by
  cases q : H l with
  | none => rfl
  | some o =>
    rw [e l o q] at h
    cases h
theorem Same.seq {K : PySem.W.Frag} {H H' : Hp} {a : Addr} {xs : List V} (e : Same H H') (h : SqL K H a xs) : SqL K H' a xs := by
  rcases h with (h | ⟨o, h⟩) | h
  · exact .inl (.inl (e _ _ h))
  · exact .inl (.inr ⟨o, e _ _ h⟩)
  · exact .inr h
/-! ### a dict's pairs: keys that differ -/
section
variable {κ : Type} [DecidableEq κ]
end
/-! ### lists -/
theorem at_of {xs : List V} {z : Int} {j : Nat} {v : V} (e : z = (j : Int)) (h : xs[j]? = some v) : atI xs z = some v := by
  rw [e]
  exact atI_nat h
/-- a new instance and its __init__ leave all that was tracked as it was -/
theorem Same.made {H H1 : Hp} {x dx C : Addr} (nx : H x = Option.none) (nd : H dx = Option.none) (k : ∀ b o, (upd (upd H dx (.own x)) x (.ins C dx [])) b = some o → b ≠ x → H1 b = some o) : Same H H1 := fun b o e =>
  k b o (by rw [upd_ne (ne_of_none e nx), upd_ne (ne_of_none e nd)]; exact e) (ne_of_none e nx)
end L2
end
section
set_option Elab.async false
set_option linter.all false
set_option maxRecDepth 100000
set_option maxHeartbeats 2000000
namespace L2
open PySem PySem.Spec PyProof.Rows
open PySem.W (WData Codec OpenSpec Well WellAll ReadsW ReadsAllW)
/-! ### an answer as data -/
mutual
/-- x stands for the datum d, lists and tuples all the way -/
inductive Dw (K : PySem.W.Frag) (H : Hp) : V → WData → Prop
  | non : Dw K H .non .none
  | bl (b : Bool) : Dw K H (.bl b) (.bool b)
  | int (i : Int) : Dw K H (.int i) (.int i)
  | str (x : Str) : Dw K H (.str x) (.str x)
  | byt (b : Array UInt8) : Dw K H (.byt b) (.bytes b.toList)
  | lst {a : Addr} {xs : List V} {ds : List WData} : SqL K H a xs → DwAll K H xs ds → Dw K H (.ref a) (.list ds)
  | tup {a : Addr} {xs : List V} {ds : List WData} : SqT K H a xs → DwAll K H xs ds → Dw K H (.ref a) (.tuple ds)
inductive DwAll (K : PySem.W.Frag) (H : Hp) : List V → List WData → Prop
  | nil : DwAll K H [] []
  | cons {v : V} {vs : List V} {d : WData} {ds : List WData} : Dw K H v d → DwAll K H vs ds → DwAll K H (v :: vs) (d :: ds)
end
theorem dw_ints {K : PySem.W.Frag} {H : Hp} : ∀ ns : List Int, DwAll K H (ns.map V.int) (ns.map WData.int)
  | [] => .nil
  | n :: r => .cons (.int n) (dw_ints r)
theorem ints_dw {K : PySem.W.Frag} {H : Hp} : ∀ (ns : List Int) (xs : List V), DwAll K H xs (ns.map WData.int) → xs = ns.map V.int
  | [], xs, h => by
    cases h
    rfl
  | n :: r, xs, h => by
    cases h with
    | cons h1 h2 =>
      cases h1
      rw [ints_dw r _ h2] <;> rfl
section
variable {P : Program} {w : World} {K : PySem.W.Frag} {H : Hp} {h : Heap} {R : PySem.W.WRecords} {cl : Str → Option Addr}
theorem sqL_at {a : Addr} {xs : List V} (hok : HOk P w H h) (KX : K.In h) (q : SqL K H a xs) : ∃ (its : List Value) (o : Obj) (n : Nat), Vals xs its ∧ h.get? a = some o ∧ o.cls = .type "list" ∧ o.data = .seq its.toArray n := by
  rcases q with q | ⟨o, its, n, e, hc, _, hd, _, hv⟩
  · obtain ⟨_, its, n, hv, e⟩ := (show ObjOk P w H h a (.lst xs) from q.ok hok)
    exact ⟨its, _, n, hv, e, rfl, rfl⟩
  · exact ⟨its.toList, o, n, hv, KX _ _ e, hc, by simp [hd]⟩
theorem sqT_at {a : Addr} {xs : List V} (hok : HOk P w H h) (KX : K.In h) (q : SqT K H a xs) : ∃ (its : List Value) (o : Obj) (n : Nat), Vals xs its ∧ h.get? a = some o ∧ o.cls = .type "tuple" ∧ o.data = .seq its.toArray n := by
  rcases q with q | ⟨o, its, n, e, hc, hd, _, hv⟩
  · obtain ⟨_, its, hv, o, e, hc, n, hd⟩ := (show ObjOk P w H h a (.tup xs) from q.ok hok)
    exact ⟨its, o, n, hv, e, hc, hd⟩
  · exact ⟨its.toList, o, n, hv, KX _ _ e, hc, by simp [hd]⟩
mutual
theorem Dw.reads (hok : HOk P w H h) (KX : K.In h) : ∀ (d : WData) (v : V) (u : Value), Dw K H v d → RelV v u → ∃ as, ReadsW R cl h u d as
  | .none, _, _, x, r => by
    cases x
    cases r
    exact ⟨_, ReadsW.none⟩
  | .bool b, _, _, x, r => by
    cases x
    cases r
    exact ⟨_, ReadsW.bool b⟩
  | .int i, _, _, x, r => by
    cases x
    obtain ⟨t, rfl⟩ := r
    exact ⟨_, ReadsW.int i t⟩
  | .str s, _, _, x, r => by
    cases x
    obtain ⟨t, rfl⟩ := r
    exact ⟨_, ReadsW.str s t⟩
  | .bytes b, _, _, x, r => by
    cases x
    obtain ⟨t, rfl⟩ := r
    exact ⟨_, ReadsW.bytes _ t⟩
  | .list ds, _, _, x, r => by
    cases x with
    | lst hs ha =>
      cases r
      obtain ⟨its, o, n, rv, ho, hc, hd⟩ := sqL_at hok KX hs
      obtain ⟨as, hr⟩ := Dw.readsAll hok KX ds _ its ha rv
      exact ⟨_, ReadsW.list ho hc hd hr⟩
  | .tuple ds, _, _, x, r => by
    cases x with
    | tup hs ha =>
      cases r
      obtain ⟨its, o, n, rv, ho, hc, hd⟩ := sqT_at hok KX hs
      obtain ⟨as, hr⟩ := Dw.readsAll hok KX ds _ its ha rv
      exact ⟨_, ReadsW.tuple ho hc hd hr⟩
  | .float _, _, _, x, _ => by cases x
  | .dict _, _, _, x, _ => by cases x
  | .bytearray _, _, _, x, _ => by cases x
  | .set _, _, _, x, _ => by cases x
  | .frozenset _, _, _, x, _ => by cases x
  | .obj _ _, _, _, x, _ => by cases x
theorem Dw.readsAll (hok : HOk P w H h) (KX : K.In h) : ∀ (ds : List WData) (vs : List V) (us : List Value), DwAll K H vs ds → Vals vs us → ∃ as, ReadsAllW R cl h us ds as
  | [], _, _, x, r => by
    cases x
    cases r
    exact ⟨_, ReadsAllW.nil⟩
  | d :: ds, _, _, x, r => by
    cases x with
    | cons h1 h2 =>
      cases r with
      | cons r1 r2 =>
        obtain ⟨as, q1⟩ := Dw.reads hok KX d _ _ h1 r1
        obtain ⟨bs, q2⟩ := Dw.readsAll hok KX ds _ _ h2 r2
        exact ⟨_, ReadsAllW.cons q1 q2⟩
end
end
/-! ### the arguments -/
mutual
/-- data that a codec tells -/
def plW : WData → Bool
  | .none => true
  | .bool _ => true
  | .int _ => true
  | .str _ => true
  | .bytes _ => true
  | .list xs => plWs xs
  | .tuple xs => plWs xs
  | _ => false
def plWs : List WData → Bool
  | [] => true
  | x :: r => plW x && plWs r
end
theorem plWs_map {α : Type} {f : α → WData} (h : ∀ a, plW (f a) = true) : ∀ l : List α, plWs (l.map f) = true
  | [] => rfl
  | x :: r => by
    show (plW (f x) && plWs (r.map f)) = true
    rw [h x, plWs_map h r] <;> rfl
theorem pl_enc : ∀ (c : Codec) (a : c.denote), plW (c.enc a) = true
  | .unit, _ => rfl
  | .bool, _ => rfl
  | .int _ _, _ => rfl
  | .nat _ _, _ => rfl
  | .u8, _ => rfl
  | .bytes _ _, _ => rfl
  | .text _ _ _ _, _ => rfl
  | .list _ _ c, a => plWs_map (fun x => pl_enc c x) a
  | .pair c d, a => by
    show (plW (c.enc a.1) && (plW (d.enc a.2) && true)) = true
    rw [pl_enc c a.1, pl_enc d a.2] <;> rfl
  | .triple c d e, a => by
    show (plW (c.enc a.1) && (plW (d.enc a.2.1) && (plW (e.enc a.2.2) && true))) = true
    rw [pl_enc c a.1, pl_enc d a.2.1, pl_enc e a.2.2] <;> rfl
  | .option c, none => rfl
  | .option c, some x => pl_enc c x
theorem pl_encAll : ∀ (cs : List Codec) (a : Codec.denoteAll cs), plWs (Codec.encAll cs a) = true
  | [], _ => rfl
  | c :: cs, a => by
    show (plW (c.enc a.1) && plWs (Codec.encAll cs a.2)) = true
    rw [pl_enc c a.1, pl_encAll cs a.2] <;> rfl
theorem weight_mem : ∀ {xs : List WData} {d : WData}, d ∈ xs → d.weight ≤ WData.weightAll xs
  | [], d, h => absurd h (by simp)
  | x :: r, d, h => by
    show d.weight ≤ x.weight + 1 + WData.weightAll r
    rcases List.mem_cons.mp h with e | m
    · rw [e]
      omega
    · have z := weight_mem m
      omega
def toV : Value → V
  | .none => .non
  | .bool b => .bl b
  | .int i _ => .int i
  | .str x _ => .str x
  | .bytes b _ => .byt b
  | .ref a => .ref a
  | _ => .non
/-- a value of the arguments, its objects among A -/
def OkU (A : List Addr) : Value → Prop
  | .none => True
  | .bool _ => True
  | .int _ _ => True
  | .str _ _ => True
  | .bytes _ _ => True
  | .ref a => a ∈ A
  | _ => False
theorem OkU.mono {A B : List Addr} (h : ∀ a ∈ A, a ∈ B) : ∀ {u : Value}, OkU A u → OkU B u := fun {u} x => by
  cases u with
  | ref a => exact h a x
  | none => trivial
  | bool b => trivial
  | int i t => trivial
  | str s t => trivial
  | bytes b t => trivial
  | _ => exact False.elim x
theorem relV_toV {A : List Addr} {u : Value} (x : OkU A u) : RelV (toV u) u := by
  cases u with
  | ref a => rfl
  | none => rfl
  | bool b => rfl
  | int i t => exact ⟨t, rfl⟩
  | str s t => exact ⟨t, rfl⟩
  | bytes b t => exact ⟨t, rfl⟩
  | _ => exact False.elim x
theorem vals_toV {A : List Addr} : ∀ {vs : List Value}, (∀ u ∈ vs, OkU A u) → Vals (vs.map toV) vs
  | [], _ => .nil
  | u :: r, h => .cons (relV_toV (h u (List.mem_cons_self ..))) (vals_toV fun x hx => h x (List.mem_cons_of_mem _ hx))
/-- an object of the arguments -/
def ArgOb (h : Heap) (A : List Addr) (a : Addr) : Prop := ∃ vs : List Value, vs.length ≤ sizeLine ∧ (∀ u ∈ vs, OkU A u) ∧
  (h.get? a = some { cls := .type "list", data := .seq vs.toArray } ∨ h.get? a = some { cls := .type "tuple", data := .seq vs.toArray })
theorem ArgOb.mono {h : Heap} {A B : List Addr} {a : Addr} (k : ∀ a ∈ A, a ∈ B) (x : ArgOb h A a) : ArgOb h B a := by
  obtain ⟨vs, h1, h2, h3⟩ := x
  exact ⟨vs, h1, fun u hu => (h2 u hu).mono k, h3⟩
theorem wellAll_len {P : Params} {h : Heap} : ∀ {vs : List Value} {ds : List WData}, WellAll P h vs ds → vs.length = ds.length
  | _, _, .nil => rfl
  | _, _, .cons _ b => by
    show _ + 1 = _ + 1
    rw [wellAll_len b]
theorem well_list {P : Params} {h : Heap} {v : Value} {ds : List WData} (x : Well P h v (.list ds)) : ∃ (a : Addr) (vs : List Value), v = .ref a ∧ h.get? a = some { cls := .type "list", data := .seq vs.toArray } ∧ WellAll P h vs ds := by
  cases x with
  | list ho hall => exact ⟨_, _, rfl, ho, hall⟩
theorem well_tuple {P : Params} {h : Heap} {v : Value} {ds : List WData} (x : Well P h v (.tuple ds)) : ∃ (a : Addr) (vs : List Value), v = .ref a ∧ h.get? a = some { cls := .type "tuple", data := .seq vs.toArray } ∧ WellAll P h vs ds := by
  cases x with
  | tuple ho hall => exact ⟨_, _, rfl, ho, hall⟩
theorem well_cons {P : Params} {h : Heap} {us : List Value} {d : WData} {ds : List WData} (x : WellAll P h us (d :: ds)) : ∃ (v : Value) (vs : List Value), us = v :: vs ∧ Well P h v d ∧ WellAll P h vs ds := by
  cases x with
  | cons a b => exact ⟨_, _, rfl, a, b⟩
theorem line_of {n : Nat} (h : n ≤ 1048576) : n ≤ sizeLine := Nat.le_trans h (by decide)
section
variable {P : Params} {h : Heap}
mutual
theorem area_one : ∀ (d : WData) (v : Value), Well P h v d → plW d = true → d.weight ≤ 1048576 → ∃ A : List Addr, OkU A v ∧ ∀ a ∈ A, ArgOb h A a
  | .none, _, x, _, _ => by
    cases x
    exact ⟨[], trivial, fun a m => absurd m (by simp)⟩
  | .bool b, _, x, _, _ => by
    cases x
    exact ⟨[], trivial, fun a m => absurd m (by simp)⟩
  | .int i, _, x, _, _ => by
    cases x
    exact ⟨[], trivial, fun a m => absurd m (by simp)⟩
  | .str s, _, x, _, _ => by
    cases x
    exact ⟨[], trivial, fun a m => absurd m (by simp)⟩
  | .bytes b, _, x, _, _ => by
    cases x
    exact ⟨[], trivial, fun a m => absurd m (by simp)⟩
  | .list ds, _, x, p, z => by
    obtain ⟨a, vs, rfl, ho, hall⟩ := well_list x
    have z2 : WData.weightAll ds ≤ 1048576 := z
    obtain ⟨A, h1, h2⟩ := area_all ds _ hall p fun d hd => Nat.le_trans (weight_mem hd) z2
    have k : ∀ b ∈ A, b ∈ a :: A := fun b hb => List.mem_cons_of_mem _ hb
    refine ⟨a :: A, List.mem_cons_self .., fun b hb => ?_⟩
    rcases List.mem_cons.mp hb with e | m
    · rw [e]
      exact ⟨vs, line_of (by rw [wellAll_len hall]; exact Nat.le_trans (PySem.W.length_le_weightAllW ds) z2), fun u hu => (h1 u hu).mono k, .inl ho⟩
    · exact (h2 b m).mono k
  | .tuple ds, _, x, p, z => by
    obtain ⟨a, vs, rfl, ho, hall⟩ := well_tuple x
    have z2 : WData.weightAll ds ≤ 1048576 := z
    obtain ⟨A, h1, h2⟩ := area_all ds _ hall p fun d hd => Nat.le_trans (weight_mem hd) z2
    have k : ∀ b ∈ A, b ∈ a :: A := fun b hb => List.mem_cons_of_mem _ hb
    refine ⟨a :: A, List.mem_cons_self .., fun b hb => ?_⟩
    rcases List.mem_cons.mp hb with e | m
    · rw [e]
      exact ⟨vs, line_of (by rw [wellAll_len hall]; exact Nat.le_trans (PySem.W.length_le_weightAllW ds) z2), fun u hu => (h1 u hu).mono k, .inr ho⟩
    · exact (h2 b m).mono k
  | .float _, _, _, p, _ => Bool.noConfusion (show false = true from p)
  | .dict _, _, _, p, _ => Bool.noConfusion (show false = true from p)
  | .bytearray _, _, _, p, _ => Bool.noConfusion (show false = true from p)
  | .set _, _, _, p, _ => Bool.noConfusion (show false = true from p)
  | .frozenset _, _, _, p, _ => Bool.noConfusion (show false = true from p)
  | .obj _ _, _, _, p, _ => Bool.noConfusion (show false = true from p)
theorem area_all : ∀ (ds : List WData) (vs : List Value), WellAll P h vs ds → plWs ds = true → (∀ d ∈ ds, d.weight ≤ 1048576) → ∃ A : List Addr, (∀ u ∈ vs, OkU A u) ∧ ∀ a ∈ A, ArgOb h A a
  | [], _, x, _, _ => by
    cases x
    exact ⟨[], fun u m => absurd m (by simp), fun a m => absurd m (by simp)⟩
  | d :: ds, _, x, p, z => by
    obtain ⟨v, vs, rfl, x1, x2⟩ := well_cons x
    have q : plW d = true ∧ plWs ds = true := Bool.and_eq_true_iff.mp p
    obtain ⟨A, a1, a2⟩ := area_one d v x1 q.1 (z d (List.mem_cons_self ..))
    obtain ⟨B, b1, b2⟩ := area_all ds vs x2 q.2 fun e he => z e (List.mem_cons_of_mem _ he)
    have kA : ∀ b ∈ A, b ∈ A ++ B := fun b hb => List.mem_append.mpr (.inl hb)
    have kB : ∀ b ∈ B, b ∈ A ++ B := fun b hb => List.mem_append.mpr (.inr hb)
    refine ⟨A ++ B, fun u hu => ?_, fun b hb => ?_⟩
    · rcases List.mem_cons.mp hu with e | m
      · rw [e]
        exact a1.mono kA
      · exact (b1 u m).mono kB
    · rcases List.mem_append.mp hb with m | m
      · exact (a2 b m).mono kA
      · exact (b2 b m).mono kB
end
end
/-- what is tracked of an argument's object -/
def hoOf (o : Obj) : Option HO := match o.data with
  | .seq vs _ => if (o.cls == Value.type "list") = true then some (.frz o (.lst (vs.toList.map toV))) else some (.frz o (.tup (vs.toList.map toV)))
  | _ => none
def argH (K : PySem.W.Frag) (h : Heap) (A : List Addr) : Hp := fun b => if b ∈ A then (if (K.lookup b).isNone = true then (h.get? b).bind hoOf else none) else none
/-- nothing is tracked but what is known to the object -/
def OnlyF (H : Hp) : Prop := ∀ b, H b = none ∨ ∃ o u, H b = some (.frz o u)
theorem hoOf_lst (vs : List Value) : hoOf { cls := .type "list", data := .seq vs.toArray } = some (.frz { cls := .type "list", data := .seq vs.toArray } (.lst (vs.map toV))) := by
  show (if (Value.type "list" == Value.type "list") = true then some (HO.frz { cls := .type "list", data := .seq vs.toArray } (.lst (vs.toArray.toList.map toV))) else some (HO.frz { cls := .type "list", data := .seq vs.toArray } (.tup (vs.toArray.toList.map toV)))) = _
  rw [if_pos (beq_self_eq_true _)]
theorem hoOf_tup (vs : List Value) : hoOf { cls := .type "tuple", data := .seq vs.toArray } = some (.frz { cls := .type "tuple", data := .seq vs.toArray } (.tup (vs.map toV))) := by
  show (if (Value.type "tuple" == Value.type "list") = true then some (HO.frz { cls := .type "tuple", data := .seq vs.toArray } (.lst (vs.toArray.toList.map toV))) else some (HO.frz { cls := .type "tuple", data := .seq vs.toArray } (.tup (vs.toArray.toList.map toV)))) = _
  rw [if_neg (by decide)]
section
variable {P : Program} {w : World} {K : PySem.W.Frag} {h : Heap} {A : List Addr}
theorem argH_at {b : Addr} {o : Obj} (hb : b ∈ A) (hk : K.lookup b = none) (e : h.get? b = some o) : argH K h A b = hoOf o := by
  unfold argH
  rw [if_pos hb, hk, if_pos (show (none : Option Obj).isNone = true from rfl), e] <;> rfl
theorem of_argH {b : Addr} {u : HO} (q : argH K h A b = some u) : b ∈ A ∧ K.lookup b = none := by
  unfold argH at q
  by_cases hb : b ∈ A
  · rw [if_pos hb] at q
    cases hk : K.lookup b with
    | none => exact ⟨hb, rfl⟩
    | some o =>
      rw [hk, if_neg (by simp)] at q
      cases q
  · rw [if_neg hb] at q
    cases q
/-- what stands tracked -/
theorem argH_is (ar : ∀ a ∈ A, ArgOb h A a) {b : Addr} {u : HO} (q : argH K h A b = some u) : K.lookup b = none ∧ ∃ vs : List Value, vs.length ≤ sizeLine ∧ (∀ u ∈ vs, OkU A u) ∧
    ((h.get? b = some { cls := .type "list", data := .seq vs.toArray } ∧ u = .frz { cls := .type "list", data := .seq vs.toArray } (.lst (vs.map toV))) ∨
     (h.get? b = some { cls := .type "tuple", data := .seq vs.toArray } ∧ u = .frz { cls := .type "tuple", data := .seq vs.toArray } (.tup (vs.map toV)))) := by
  obtain ⟨hb, hk⟩ := of_argH q
  obtain ⟨vs, h1, h2, h3⟩ := ar b hb
  refine ⟨hk, vs, h1, h2, ?_⟩
  rcases h3 with e | e
  · rw [argH_at hb hk e, hoOf_lst] at q
    exact .inl ⟨e, (Option.some.inj q).symm⟩
  · rw [argH_at hb hk e, hoOf_tup] at q
    exact .inr ⟨e, (Option.some.inj q).symm⟩
theorem argH_only (ar : ∀ a ∈ A, ArgOb h A a) : OnlyF (argH K h A) := fun b => by
  cases q : argH K h A b with
  | none => exact .inl rfl
  | some u =>
    obtain ⟨_, vs, _, _, ⟨_, e⟩ | ⟨_, e⟩⟩ := argH_is ar q
    · exact .inr ⟨_, _, by rw [e]⟩
    · exact .inr ⟨_, _, by rw [e]⟩
theorem argH_ok (ar : ∀ a ∈ A, ArgOb h A a) : HOk P w (argH K h A) h := fun b u q => by
  obtain ⟨_, vs, h1, h2, ⟨e, rfl⟩ | ⟨e, rfl⟩⟩ := argH_is ar q
  · exact ⟨e, by rw [List.length_map]; exact h1, vs, _, vals_toV h2, e⟩
  · exact ⟨e, by rw [List.length_map]; exact h1, vs, vals_toV h2, _, e, rfl, _, rfl⟩
theorem seq_inj {c c' : Value} {vs us : List Value} (e : (some { cls := c, data := .seq vs.toArray } : Option Obj) = some { cls := c', data := .seq us.toArray }) : c = c' ∧ vs = us := by
  have e1 := Option.some.inj e
  have e2 : c = c' := congrArg Obj.cls e1
  have e3 : Data.seq vs.toArray = Data.seq us.toArray := congrArg Obj.data e1
  injection e3 with e4
  refine ⟨e2, ?_⟩
  have e5 := congrArg Array.toList e4
  simpa using e5
/-- a list argument -/
theorem argL (KX : K.In h) (ar : ∀ a ∈ A, ArgOb h A a) {a : Addr} {vs : List Value} (ha : a ∈ A) (e : h.get? a = some { cls := .type "list", data := .seq vs.toArray }) : (∀ u ∈ vs, OkU A u) ∧ SqL K (argH K h A) a (vs.map toV) := by
  obtain ⟨us, h1, h2, h3⟩ := ar a ha
  have hu : us = vs := by
    rcases h3 with q | q
    · rw [e] at q
      exact (seq_inj q).2.symm
    · rw [e] at q
      exact absurd (Value.type.inj (seq_inj q).1) (by decide)
  subst hu
  refine ⟨h2, ?_⟩
  cases hk : K.lookup a with
  | none => exact .inl (.inr ⟨_, by rw [argH_at ha hk e, hoOf_lst]⟩)
  | some o =>
    have e2 := KX a o hk
    rw [e] at e2
    obtain rfl := Option.some.inj e2
    exact .inr ⟨_, us.toArray, _, hk, rfl, rfl, rfl, by rw [List.size_toArray]; exact h1, by simpa using vals_toV h2⟩
theorem argT (KX : K.In h) (ar : ∀ a ∈ A, ArgOb h A a) {a : Addr} {vs : List Value} (ha : a ∈ A) (e : h.get? a = some { cls := .type "tuple", data := .seq vs.toArray }) : (∀ u ∈ vs, OkU A u) ∧ SqT K (argH K h A) a (vs.map toV) := by
  obtain ⟨us, h1, h2, h3⟩ := ar a ha
  have hu : us = vs := by
    rcases h3 with q | q
    · rw [e] at q
      exact absurd (Value.type.inj (seq_inj q).1) (by decide)
    · rw [e] at q
      exact (seq_inj q).2.symm
  subst hu
  refine ⟨h2, ?_⟩
  cases hk : K.lookup a with
  | none => exact .inl (.inr ⟨_, by rw [argH_at ha hk e, hoOf_tup]⟩)
  | some o =>
    have e2 := KX a o hk
    rw [e] at e2
    obtain rfl := Option.some.inj e2
    exact .inr ⟨_, us.toArray, _, hk, rfl, rfl, by rw [List.size_toArray]; exact h1, by simpa using vals_toV h2⟩
mutual
theorem dw_one {Pm : Params} (KX : K.In h) (ar : ∀ a ∈ A, ArgOb h A a) : ∀ (d : WData) (v : Value), Well Pm h v d → plW d = true → OkU A v → Dw K (argH K h A) (toV v) d
  | .none, _, x, _, _ => by
    cases x
    exact .non
  | .bool b, _, x, _, _ => by
    cases x
    exact .bl b
  | .int i, _, x, _, _ => by
    cases x
    exact .int i
  | .str s, _, x, _, _ => by
    cases x
    exact .str s
  | .bytes b, _, x, _, _ => by
    cases x
    have z := Dw.byt (K := K) (H := argH K h A) b.toArray
    exact z
  | .list ds, _, x, p, hu => by
    obtain ⟨a, vs, rfl, ho, hall⟩ := well_list x
    obtain ⟨h2, hs⟩ := argL KX ar hu ho
    exact .lst hs (dw_all KX ar ds _ hall p h2)
  | .tuple ds, _, x, p, hu => by
    obtain ⟨a, vs, rfl, ho, hall⟩ := well_tuple x
    obtain ⟨h2, hs⟩ := argT KX ar hu ho
    exact .tup hs (dw_all KX ar ds _ hall p h2)
  | .float _, _, _, p, _ => Bool.noConfusion (show false = true from p)
  | .dict _, _, _, p, _ => Bool.noConfusion (show false = true from p)
  | .bytearray _, _, _, p, _ => Bool.noConfusion (show false = true from p)
  | .set _, _, _, p, _ => Bool.noConfusion (show false = true from p)
  | .frozenset _, _, _, p, _ => Bool.noConfusion (show false = true from p)
  | .obj _ _, _, _, p, _ => Bool.noConfusion (show false = true from p)
theorem dw_all {Pm : Params} (KX : K.In h) (ar : ∀ a ∈ A, ArgOb h A a) : ∀ (ds : List WData) (vs : List Value), WellAll Pm h vs ds → plWs ds = true → (∀ u ∈ vs, OkU A u) → DwAll K (argH K h A) (vs.map toV) ds
  | [], _, x, _, _ => by
    cases x
    exact .nil
  | d :: ds, _, x, p, hu => by
    obtain ⟨v, vs, rfl, x1, x2⟩ := well_cons x
    have q : plW d = true ∧ plWs ds = true := Bool.and_eq_true_iff.mp p
    exact .cons (dw_one KX ar d v x1 q.1 (hu _ (List.mem_cons_self ..))) (dw_all KX ar ds vs x2 q.2 fun u m => hu u (List.mem_cons_of_mem _ m))
end
end
/-! ### the call -/
theorem spec_call {P : Program} {w : World} {K : PySem.W.Frag} {mg mb : Str → Option Value} {CX : CXT} {k : Nat} {fa : Addr} {fd : FuncData} {ps : List Str} {sp : Sp} {s₁ : Shared} {vals : List Value} {ds : List WData} {R : PySem.W.WRecords} {cl : Str → Option Addr} {d0 : WData}
    (KX : K.In s₁.heap) (hns : s₁.heap.Ns mainGlobals mg) (hb : s₁.heap.Ns builtinsNs mb) (hbb : ∀ x : Str, x ≠ "__name__" → mb x = bootBuiltins x) (hlim : s₁.heap.NoLimit) (hg : s₁.gens = #[])
    (hwl : WellAll w.params s₁.heap vals ds) (hpl : plWs ds = true) (hwt : ∀ d ∈ ds, d.weight ≤ 1048576) (hr : Room k callerA)
    (F : ∀ base : Heap, K.In base → base.Ns mainGlobals mg → FnOk P w K mg base CX k fa fd ps sp) (hbind : ∀ (s : Shared) (us : List Value), us.length = ps.length → BindsTo s fd ⟨us, []⟩ (ps.zip us)) (hlen : ds.length = ps.length)
    (hsp : ∀ (H : Hp) (xs : List V), OnlyF H → DwAll K H xs ds → sp xs H (fun v H' => Dw K H' v d0) fun _ _ _ => False)
    (hCX : ∀ H e s', CX [] H s₁ (fun _ _ _ => False) e s' → False) :
    codeAny (model P w) callerA (.call (.ref fa) ⟨vals, []⟩) (fun r s' => ∃ u as, r = .ok (.ret u) ∧ ReadsW R cl s'.heap u d0 as ∧ OldK s₁.heap s'.heap ∧ s'.os = s₁.os ∧ AllBare s'.gens) s₁ := by
  obtain ⟨A, ho, ar⟩ := area_all ds vals hwl hpl hwt
  have hO : OnlyF (argH K s₁.heap A) := argH_only ar
  have hok : HOk P w (argH K s₁.heap A) s₁.heap := argH_ok ar
  have hS := dw_all KX ar ds vals hwl hpl ho
  have hV := vals_toV ho
  have hK : ∀ b u, argH K s₁.heap A b = some u → K.lookup b = none := fun b u q => (argH_is ar q).1
  have noA : ∀ {b : Addr} {o : Obj} {es : Array DictEntry} {ep : Nat}, s₁.heap.get? b = some o → o.data = .dict es ep → argH K s₁.heap A b = none := fun {b o es ep} e d => by
    cases q : argH K s₁.heap A b with
    | none => rfl
    | some u =>
      obtain ⟨_, vs, _, _, ⟨e2, _⟩ | ⟨e2, _⟩⟩ := argH_is ar q
      · rw [e2] at e
        cases e
        have d' : Data.seq vs.toArray _ = Data.dict es ep := d
        cases d'
      · rw [e2] at e
        cases e
        have d' : Data.seq vs.toArray _ = Data.dict es ep := d
        cases d'
  generalize argH K s₁.heap A = H at hO hok hS hK noA
  have base_of : ∀ {b : Addr} {o : Obj}, s₁.heap.get? b = some o → H b = none → (hidT s₁.heap H).get? b = some o := fun e n => hidT_get e n
  have nsK : ∀ {b : Addr} {m : Str → Option Value}, s₁.heap.Ns b m → (hidT s₁.heap H).Ns b m := fun {b m} ⟨o, es, ep, e, d, r⟩ => ⟨o, es, ep, base_of e (noA e d), d, r⟩
  have nK : ∀ b o, K.lookup b = some o → H b = none := fun b o e => by
    cases q : H b with
    | none => rfl
    | some u =>
      rw [hK b u q] at e
      cases e
  have hKb : K.In (hidT s₁.heap H) := fun b o e => base_of (KX b o e) (nK b o e)
  have hM : Mod K mg (hidT s₁.heap H) := ⟨hKb, nsK hns, ⟨mb, nsK hb, hbb⟩, let ⟨mc, h1, h2⟩ := hlim; ⟨mc, nsK h1, h2⟩⟩
  have e0 : Env0 P w K mg (hidT s₁.heap H) callerA [] s₁ H := ⟨rfl, hM, fun b o e => of_hidT e, Nat.le_of_eq (hidT_size _ _), trivial, fun b hb => absurd (show b ∈ ([] : List Addr) from hb) (by simp), hok, .of_eq hg⟩
  have hl : vals.length = ps.length := by rw [wellAll_len hwl]; exact hlen
  refine codeAny_mono ((F _ hKb (nsK hns)).run callerA [] s₁ H ⟨vals, []⟩ vals (vals.map toV) _ _ hr e0 (hbind s₁ vals hl) hV (hsp H _ hO hS)) fun r s' x => ?_
  cases r with
  | error e => exact (hCX H e s' x).elim
  | ok fl =>
    cases fl with
    | next => exact False.elim x
    | brk => exact False.elim x
    | cont => exact False.elim x
    | ret u =>
      obtain ⟨v, H', os, bare, un, hok', r', q⟩ := x
      have kept : ∀ b o, s₁.heap.get? b = some o → s'.heap.get? b = some o := fun b o e => by
        cases q2 : H b with
        | none => exact un.keep b o e q2 (by intro z; exact absurd (show b ∈ ([] : List Addr) from z) (by simp)) (by simp)
        | some u2 =>
          rcases hO b with z | ⟨ob, u3, z⟩
          · rw [q2] at z
            cases z
          · have z2 := un.frzs b ob _ z
            obtain ⟨e1, _⟩ := hok b _ z
            obtain ⟨e2, _⟩ := hok' b _ z2
            rw [e] at e1
            cases e1
            exact e2
      have KX' : K.In s'.heap := fun b o e => kept b o (KX b o e)
      obtain ⟨as, hrd⟩ := Dw.reads (R := R) (cl := cl) hok' KX' d0 v u q r'
      exact ⟨u, as, rfl, hrd, OldK.of_keep kept, os, bare⟩
/-! ### the row -/
theorem layable_weight {ds : List WData} (h : WData.layableAll ds = true) : ∀ d ∈ ds, d.weight ≤ 1048576 := fun d hd =>
  (PySem.W.layableW_iff.mp (List.all_eq_true.mp h d hd)).2.2
theorem encAll_len : ∀ (cs : List Codec) (a : Codec.denoteAll cs), (Codec.encAll cs a).length = cs.length
  | [], _ => rfl
  | c :: cs, a => by
    show (Codec.encAll cs a.2).length + 1 = cs.length + 1
    rw [encAll_len cs a.2]
/-- the goal that k_headS leaves (case hc), from the promise of the row's def: whatever the arguments that the codecs let and the row asks for, the def gives what stands for enc (f ..) -/
theorem walk_spec {r : OpenSpec} {k : Nat} {q : Program} {loose : List Str} {XP : (Str → Option Value) → Heap → Prop} {YP : World → Heap → Prop} {d : DefRec} {K : Params → PySem.W.Frag} {CX : World → CXT} {ps : List Str} {sp : World → Sp}
    (hwell : r.wellSaid = true) (hdf : d.params.defaults = []) (hlen : r.args.length = ps.length) (hr : Room k callerA)
    (hY : ∀ (w : World) (h : Heap), YP w h → (K w.params).In h)
    (F : ∀ (w : World) (mg : Str → Option Value) (fa : Addr) (h : Heap), YP w h → (K w.params).In h → h.Ns mainGlobals mg → mg d.name = some (.ref fa) →
      ∃ fd : FuncData, (∀ (s : Shared) (us : List Value), us.length = ps.length → BindsTo s fd ⟨us, []⟩ (ps.zip us)) ∧
        ∀ base : Heap, (K w.params).In base → base.Ns mainGlobals mg → FnOk r.prog w (K w.params) mg base (CX w) k fa fd ps (sp w))
    (hsp : ∀ (w : World) (H : Hp) (xs : List V) (a : Codec.denoteAll r.args), OnlyF H → Codec.withinAll r.args a = true → Codec.app r.args r.asked a = true → DwAll (K w.params) H xs (Codec.encAll r.args a) →
      sp w xs H (fun v H' => Dw (K w.params) H' v (r.ret.enc (Codec.app r.args r.f a))) fun _ _ _ => False)
    (hCX : ∀ (w : World) (H : Hp) (s : Shared) (e : Value) (s' : Shared), CX w [] H s (fun _ _ _ => False) e s' → False) :
    PySem.W.WalkOS q loose XP YP r d [] (fun f vs => PySem.call f vs) := by
  intro w s_0 s₁ mg mb G Y fa o pm cd doc dV kV ho hd hcd hD hmg hg args vals as hpre hlay hrd hwl hlo
  obtain ⟨a, e1, e2⟩ := PySem.W.os_pre_some hpre
  obtain ⟨e3, hwi⟩ := Codec.encAll_of_decAll r.args args a e1
  subst e3
  have KX := hY w _ Y
  obtain ⟨fd, hb, hF⟩ := F w mg fa _ Y KX G.T.g hmg
  refine PySem.W.enter_call (codeAny_mono (spec_call (R := []) (cl := classAt s_0.heap) (d0 := r.ret.enc (Codec.app r.args r.f a)) KX G.T.g G.T.b G.T.builtins G.T.nolimit hg hwl (pl_encAll _ _) (layable_weight hlay) hr hF hb (by rw [encAll_len]; exact hlen)
    (fun H xs hO hS => hsp w H xs a hO hwi e2 hS) fun H e s' => hCX w H s₁ e s') fun r' s' hq => ?_)
  obtain ⟨u, as', rfl, h1, h2, h3, h4⟩ := hq
  exact ⟨.inl ⟨u, _, as', rfl, fun _ => rfl, h1, (OpenSpec.post_iff hwell hwi _ _).mpr rfl, fun z => Bool.noConfusion (show false = true from z)⟩, h2, h3, h4⟩
/-- the same where the promise hangs on the written part alone -/
theorem walk_specK {r : OpenSpec} {k : Nat} {q : Program} {loose : List Str} {XP : (Str → Option Value) → Heap → Prop} {YP : World → Heap → Prop} {d : DefRec} {K : Params → PySem.W.Frag} {CX : CXT} {ps : List Str} {sp : PySem.W.Frag → Sp}
    (hwell : r.wellSaid = true) (hdf : d.params.defaults = []) (hlen : r.args.length = ps.length) (hr : Room k callerA)
    (hY : ∀ (w : World) (h : Heap), YP w h → (K w.params).In h)
    (F : ∀ (w : World) (mg : Str → Option Value) (fa : Addr) (h : Heap), YP w h → (K w.params).In h → h.Ns mainGlobals mg → mg d.name = some (.ref fa) →
      ∃ fd : FuncData, (∀ (s : Shared) (us : List Value), us.length = ps.length → BindsTo s fd ⟨us, []⟩ (ps.zip us)) ∧
        ∀ base : Heap, (K w.params).In base → base.Ns mainGlobals mg → FnOk r.prog w (K w.params) mg base CX k fa fd ps (sp (K w.params)))
    (hsp : ∀ (K : PySem.W.Frag) (H : Hp) (xs : List V) (a : Codec.denoteAll r.args), OnlyF H → Codec.withinAll r.args a = true → Codec.app r.args r.asked a = true → DwAll K H xs (Codec.encAll r.args a) →
      sp K xs H (fun v H' => Dw K H' v (r.ret.enc (Codec.app r.args r.f a))) fun _ _ _ => False)
    (hCX : ∀ (H : Hp) (s : Shared) (e : Value) (s' : Shared), CX [] H s (fun _ _ _ => False) e s' → False) :
    PySem.W.WalkOS q loose XP YP r d [] (fun f vs => PySem.call f vs) :=
  walk_spec (K := K) (CX := fun _ => CX) (sp := fun w => sp (K w.params)) hwell hdf hlen hr hY F (fun w H xs a h1 h2 h3 h4 => hsp (K w.params) H xs a h1 h2 h3 h4) fun _ H s e s' => hCX H s e s'
end L2
-- rests on (row put in by the clerk, for the bench that shows a file only what it spells): KE.SpHead KE.OsShapes
end
section
set_option Elab.async false
/-! Texts of lattices: the program's reading of one, against the specification's. -/
namespace Cf
open ClLat
def isLetI (b : Int) : Bool := decide (65 ≤ b) && decide (b ≤ 90)
def isCellI (b : Int) : Bool := decide (b = 35) || (decide (b = 46) || (decide (65 ≤ b) && decide (b ≤ 90)))
def cellI (b : Int) : Option (Option Nat) := if b = 35 then none else if b = 46 then some none else some (some (b.toNat - 65))
def mayF (b : Int) (row col least most : Nat) : Bool := if row = 9 then false else if b = 10 then decide (least ≤ col) else isCellI b && decide (col < most)
def faultGo : List Int → Nat → Nat → Nat → Nat → Nat → Option Nat
  | [], p, row, col, _, _ => if 0 < col ∨ row < 2 then some p else none
  | b :: t, p, row, col, least, most => if mayF b row col least most = true then (if b = 10 then faultGo t (p + 1) (row + 1) 0 col col else faultGo t (p + 1) row (col + 1) least most) else some p
def faultM (t : List Int) : Option Nat := faultGo t 0 0 0 2 9
def rowsGo : List Int → List (List Int) → List Int → List (List Int)
  | [], rows, _ => rows
  | b :: t, rows, row => if b = 10 then rowsGo t (rows ++ [row]) [] else rowsGo t rows (row ++ [b])
def rowsM (t : List Int) : List (List Int) := rowsGo t [] []
def toB (t : List Int) : Bytes := t.map fun n => UInt8.ofNat n.toNat
def AreBytes (t : List Int) : Prop := ∀ b ∈ t, 0 ≤ b ∧ b ≤ 255
structure Rect (R : List (List Int)) (w : Nat) : Prop where
  r2 : 2 ≤ R.length
  r9 : R.length ≤ 9
  w2 : 2 ≤ w
  w9 : w ≤ 9
  len : ∀ r ∈ R, r.length = w
  cells : ∀ r ∈ R, ∀ b ∈ r, isCellI b = true
def gridOf (R : List (List Int)) (w : Nat) : Grid := ⟨R.length, w, R.flatten.map cellI⟩
theorem cellOf_nat : ∀ n, n < 256 → cellOf (UInt8.ofNat n) = if isCellI (n : Int) = true then some (cellI (n : Int)) else none := by decide +kernel
theorem is10_nat : ∀ n, n < 256 → (decide (UInt8.ofNat n = 10) = decide ((n : Int) = 10)) := by decide +kernel
theorem byte_nat {b : Int} (h : 0 ≤ b ∧ b ≤ 255) : b.toNat < 256 ∧ ((b.toNat : Nat) : Int) = b := by omega
theorem cellOf_eq {b : Int} (h : 0 ≤ b ∧ b ≤ 255) : cellOf (UInt8.ofNat b.toNat) = if isCellI b = true then some (cellI b) else none := by
  obtain ⟨h1, h2⟩ := byte_nat h
  have := cellOf_nat b.toNat h1
  rw [h2] at this
  exact this
theorem is10_eq {b : Int} (h : 0 ≤ b ∧ b ≤ 255) : (UInt8.ofNat b.toNat = 10) ↔ b = 10 := by
  obtain ⟨h1, h2⟩ := byte_nat h
  have := is10_nat b.toNat h1
  rw [h2] at this
  constructor
  · intro e; exact of_decide_eq_true (this ▸ decide_eq_true e)
  · intro e; exact of_decide_eq_true (this.symm ▸ decide_eq_true e)
theorem not10 {b : Int} (h : isCellI b = true) : b ≠ 10 := by
  intro e; subst e; exact absurd h (by decide)
/-- what a line's reading comes to -/
theorem line_eq : ∀ (t : List Int) (p row col least most : Nat), AreBytes t → row ≠ 9 → col ≤ most → least ≤ most → (0 < col ∨ row < 2 ∨ t ≠ []) →
    match lineIn (most - col) (least - col) p (toB t) with
    | .error q => faultGo t p row col least most = some q
    | .ok y => ∃ (rb rest : List Int), t = rb ++ 10 :: rest ∧ y = (rb.map cellI, p + rb.length + 1, toB rest) ∧ least ≤ col + rb.length ∧ col + rb.length ≤ most ∧ (∀ b ∈ rb, isCellI b = true) ∧
        faultGo t p row col least most = faultGo rest (p + rb.length + 1) (row + 1) 0 (col + rb.length) (col + rb.length)
  | [], p, row, col, least, most, _, _, _, _, hne => by
    have e : lineIn (most - col) (least - col) p (toB []) = .error p := by
      cases most - col <;> rfl
    rw [e]
    show (if 0 < col ∨ row < 2 then some p else none) = some p
    rw [if_pos]
    rcases hne with h | h | h
    · exact .inl h
    · exact .inr h
    · exact absurd rfl h
  | b :: t, p, row, col, least, most, hb, hr, hc, hl, _ => by
    have hb0 := hb b List.mem_cons_self
    have hbt : AreBytes t := fun x hx => hb x (List.mem_cons_of_mem _ hx)
    by_cases h10 : b = 10
    · have e10 : UInt8.ofNat b.toNat = 10 := (is10_eq hb0).mpr h10
      by_cases hm : least ≤ col
      · -- the line ends
        have e : lineIn (most - col) (least - col) p (toB (b :: t)) = .ok ([], p + 1, toB t) := by
          have e0 : least - col = 0 := by omega
          show lineIn (most - col) (least - col) p (UInt8.ofNat b.toNat :: toB t) = _
          rw [e0]
          cases most - col with
          | zero => simp [lineIn, e10]
          | succ n => simp [lineIn, e10]
        rw [e]
        refine ⟨[], t, by rw [h10]; rfl, by simp, by simpa using hm, by simpa using hc, by simp, ?_⟩
        show (if mayF b row col least most = true then _ else _) = _
        have hmay : mayF b row col least most = true := by unfold mayF; rw [if_neg hr, if_pos h10]; exact decide_eq_true hm
        rw [if_pos hmay, if_pos h10]
        simp
      · have e : lineIn (most - col) (least - col) p (toB (b :: t)) = .error p := by
          show lineIn (most - col) (least - col) p (UInt8.ofNat b.toNat :: toB t) = _
          obtain ⟨m, em⟩ : ∃ m, least - col = m + 1 := ⟨least - col - 1, by omega⟩
          obtain ⟨n, en⟩ : ∃ n, most - col = n + 1 := ⟨most - col - 1, by omega⟩
          have hc0 : cellOf 10 = none := by decide
          rw [em, en]
          simp [lineIn, e10, hc0]
        rw [e]
        show (if mayF b row col least most = true then _ else _) = _
        have hmay : ¬ mayF b row col least most = true := by unfold mayF; rw [if_neg hr, if_pos h10]; simpa using hm
        rw [if_neg hmay]
    · have e10 : ¬ UInt8.ofNat b.toNat = 10 := fun e => h10 ((is10_eq hb0).mp e)
      have hco := cellOf_eq hb0
      by_cases hcell : isCellI b = true
      · rw [if_pos hcell] at hco
        by_cases hlt : col < most
        · obtain ⟨n, en⟩ : ∃ n, most - col = n + 1 := ⟨most - col - 1, by omega⟩
          have en' : n = most - (col + 1) := by omega
          have em' : least - col - 1 = least - (col + 1) := by omega
          have ih := line_eq t (p + 1) row (col + 1) least most hbt hr (by omega) hl (.inl (by omega))
          have hmay : mayF b row col least most = true := by
            unfold mayF; rw [if_neg hr, if_neg h10, hcell]; simpa using hlt
          have ef : faultGo (b :: t) p row col least most = faultGo t (p + 1) row (col + 1) least most := by
            show (if mayF b row col least most = true then _ else _) = _
            rw [if_pos hmay, if_neg h10]
          have e : lineIn (most - col) (least - col) p (toB (b :: t)) = (match lineIn (most - (col + 1)) (least - (col + 1)) (p + 1) (toB t) with
              | .error q => .error q
              | .ok y => .ok (cellI b :: y.1, y.2)) := by
            show lineIn (most - col) (least - col) p (UInt8.ofNat b.toNat :: toB t) = _
            rw [en, ← en', ← em']
            simp only [lineIn]
            rw [if_neg (fun h => e10 h.1), hco]
            rfl
          rw [e, ef]
          cases hL : lineIn (most - (col + 1)) (least - (col + 1)) (p + 1) (toB t) with
          | error q =>
            rw [hL] at ih
            exact ih
          | ok y =>
            rw [hL] at ih
            obtain ⟨rb, rest, e1, e2, h1, h2, h3, h4⟩ := ih
            refine ⟨b :: rb, rest, by rw [e1]; rfl, ?_, ?_, ?_, ?_, ?_⟩
            · rw [e2]
              simp only [List.map_cons, List.length_cons]
              congr 2
              omega
            · simp only [List.length_cons]; omega
            · simp only [List.length_cons]; omega
            · intro x hx
              rcases List.mem_cons.mp hx with rfl | hx
              · exact hcell
              · exact h3 x hx
            · rw [h4]
              simp only [List.length_cons]
              congr 1 <;> omega
        · have e : lineIn (most - col) (least - col) p (toB (b :: t)) = .error p := by
            show lineIn (most - col) (least - col) p (UInt8.ofNat b.toNat :: toB t) = _
            have en : most - col = 0 := by omega
            rw [en]
            simp only [lineIn]
            rw [if_neg e10]
          rw [e]
          show (if mayF b row col least most = true then _ else _) = _
          have hmay : ¬ mayF b row col least most = true := by unfold mayF; rw [if_neg hr, if_neg h10, hcell]; simpa using hlt
          rw [if_neg hmay]
      · rw [if_neg hcell] at hco
        have e : lineIn (most - col) (least - col) p (toB (b :: t)) = .error p := by
          show lineIn (most - col) (least - col) p (UInt8.ofNat b.toNat :: toB t) = _
          cases most - col with
          | zero => simp only [lineIn]; rw [if_neg e10]
          | succ n => simp only [lineIn]; rw [if_neg (fun h => e10 h.1), hco]
        rw [e]
        show (if mayF b row col least most = true then _ else _) = _
        have hmay : ¬ mayF b row col least most = true := by
          unfold mayF; rw [if_neg hr, if_neg h10]
          have hf : isCellI b = false := by cases h : isCellI b <;> simp_all
          rw [hf]; simp
        rw [if_neg hmay]
theorem rowsGo_line : ∀ (rb rest : List Int) (rows : List (List Int)) (row : List Int), (∀ b ∈ rb, isCellI b = true) → rowsGo (rb ++ 10 :: rest) rows row = rowsGo rest (rows ++ [row ++ rb]) []
  | [], rest, rows, row, _ => by simp [rowsGo]
  | b :: rb, rest, rows, row, h => by
    have hb : b ≠ 10 := not10 (h b List.mem_cons_self)
    show rowsGo (b :: (rb ++ 10 :: rest)) rows row = _
    simp only [rowsGo, if_neg hb]
    rw [rowsGo_line rb rest rows (row ++ [b]) fun x hx => h x (List.mem_cons_of_mem _ hx)]
    simp
theorem rowsGo_acc : ∀ (t : List Int) (rows : List (List Int)) (row : List Int), rowsGo t rows row = rows ++ rowsGo t [] row
  | [], rows, row => by simp [rowsGo]
  | b :: t, rows, row => by
    simp only [rowsGo]
    split
    · rw [rowsGo_acc t (rows ++ [row]), rowsGo_acc t ([] ++ [row])]; simp
    · exact rowsGo_acc t rows (row ++ [b])
theorem lines_eq (w : Nat) (hw : 2 ≤ w) : ∀ (n : Nat) (t : List Int) (p row : Nat), AreBytes t → n + row = 9 →
    match linesIn w n (2 - row) p (toB t) with
    | .error q => faultGo t p row 0 w w = some q
    | .ok l => faultGo t p row 0 w w = none ∧ ∃ R : List (List Int), l = R.map (fun r => r.map cellI) ∧ rowsGo t [] [] = R ∧ (∀ r ∈ R, r.length = w) ∧ (∀ r ∈ R, ∀ b ∈ r, isCellI b = true) ∧ R.length ≤ n ∧ 2 - row ≤ R.length
  | 0, [], p, row, _, h => by
    have : row = 9 := by omega
    subst this
    show faultGo [] p 9 0 w w = none ∧ _
    exact ⟨rfl, [], rfl, rfl, by simp, by simp, by simp, by simp⟩
  | 0, b :: t, p, row, _, h => by
    have : row = 9 := by omega
    subst this
    show faultGo (b :: t) p 9 0 w w = some p
    rfl
  | n + 1, [], p, row, _, h => by
    have hrow : row ≠ 9 := by omega
    by_cases h2 : row < 2
    · have e : linesIn w (n + 1) (2 - row) p (toB []) = .error p := by
        obtain ⟨m, em⟩ : ∃ m, 2 - row = m + 1 := ⟨2 - row - 1, by omega⟩
        rw [em]; rfl
      rw [e]
      show (if 0 < 0 ∨ row < 2 then some p else none) = some p
      rw [if_pos (.inr h2)]
    · have e : linesIn w (n + 1) (2 - row) p (toB []) = .ok [] := by
        have em : 2 - row = 0 := by omega
        rw [em]; rfl
      rw [e]
      refine ⟨?_, [], rfl, rfl, by simp, by simp, by simp, by simp; omega⟩
      show (if 0 < 0 ∨ row < 2 then some p else none) = none
      rw [if_neg]; omega
  | n + 1, b :: t, p, row, hb, h => by
    have hrow : row ≠ 9 := by omega
    have hl := line_eq (b :: t) p row 0 w w hb hrow (Nat.zero_le _) (Nat.le_refl _) (.inr (.inr (by simp)))
    rw [Nat.sub_zero] at hl
    have e : linesIn w (n + 1) (2 - row) p (toB (b :: t)) = (match lineIn w w p (toB (b :: t)) with
        | .error q => .error q
        | .ok y => match linesIn w n (2 - row - 1) y.2.1 y.2.2 with
          | .error q => .error q
          | .ok l => .ok (y.1 :: l)) := by
      show linesIn w (n + 1) (2 - row) p (UInt8.ofNat b.toNat :: toB t) = _
      simp only [linesIn]
      rfl
    rw [e]
    cases hL : lineIn w w p (toB (b :: t)) with
    | error q =>
      rw [hL] at hl
      exact hl
    | ok y =>
      rw [hL] at hl
      obtain ⟨rb, rest, e1, e2, h1, h2, h3, h4⟩ := hl
      have hrest : AreBytes rest := fun x hx => hb x (by rw [e1]; exact List.mem_append_right _ (List.mem_cons_of_mem _ hx))
      have hlen : rb.length = w := by omega
      have ih := lines_eq w hw n rest (p + rb.length + 1) (row + 1) hrest (by omega)
      subst e2
      have er : 2 - row - 1 = 2 - (row + 1) := by omega
      rw [Nat.zero_add, hlen] at h4
      simp only [er]
      cases hM : linesIn w n (2 - (row + 1)) (p + rb.length + 1) (toB rest) with
      | error q =>
        rw [hM] at ih
        show faultGo (b :: t) p row 0 w w = some q
        rw [h4, ← hlen, hlen]
        rw [hlen] at ih
        exact ih
      | ok l =>
        rw [hM] at ih
        obtain ⟨i1, R, i2, i3, i4, i5, i6, i7⟩ := ih
        refine ⟨?_, rb :: R, ?_, ?_, ?_, ?_, ?_, ?_⟩
        · rw [h4]; rw [hlen] at i1; exact i1
        · rw [i2]; rfl
        · rw [e1, rowsGo_line rb rest [] [] h3, rowsGo_acc, i3]; rfl
        · intro r hr
          rcases List.mem_cons.mp hr with rfl | hr
          · exact hlen
          · exact i4 r hr
        · intro r hr
          rcases List.mem_cons.mp hr with rfl | hr
          · exact h3
          · exact i5 r hr
        · simp only [List.length_cons]; omega
        · simp only [List.length_cons]; omega
/-- the specification's reading is the program's -/
theorem read_eq (t : List Int) (hb : AreBytes t) : match readGrid (toB t) with
    | .error q => faultM t = some q
    | .ok g => faultM t = none ∧ ∃ w, Rect (rowsM t) w ∧ g = gridOf (rowsM t) w := by
  have hl := line_eq t 0 0 0 2 9 hb (by omega) (by omega) (by omega) (.inr (.inl (by omega)))
  unfold readGrid
  have e : lineIn MOST LEAST 0 (toB t) = lineIn (9 - 0) (2 - 0) 0 (toB t) := rfl
  rw [e]
  cases hL : lineIn (9 - 0) (2 - 0) 0 (toB t) with
  | error q =>
    rw [hL] at hl
    exact hl
  | ok y =>
    rw [hL] at hl
    obtain ⟨rb, rest, e1, e2, h1, h2, h3, h4⟩ := hl
    have hrest : AreBytes rest := fun x hx => hb x (by rw [e1]; exact List.mem_append_right _ (List.mem_cons_of_mem _ hx))
    subst e2
    rw [Nat.zero_add] at h1 h2 h4
    rw [Nat.zero_add] at h4
    have ih := lines_eq rb.length h1 8 rest (rb.length + 1) 1 hrest rfl
    have e3 : linesIn (rb.map cellI).length (MOST - 1) (LEAST - 1) (0 + rb.length + 1) (toB rest) = linesIn rb.length 8 (2 - 1) (rb.length + 1) (toB rest) := by
      rw [List.length_map, Nat.zero_add]; rfl
    simp only [e3]
    cases hM : linesIn rb.length 8 (2 - 1) (rb.length + 1) (toB rest) with
    | error q =>
      rw [hM] at ih
      show faultGo t 0 0 0 2 9 = some q
      rw [h4]; exact ih
    | ok l =>
      rw [hM] at ih
      obtain ⟨i1, R, i2, i3, i4, i5, i6, i7⟩ := ih
      have er : rowsM t = rb :: R := by
        unfold rowsM
        rw [e1, rowsGo_line rb rest [] [] h3, rowsGo_acc, i3]; rfl
      refine ⟨?_, rb.length, ?_, ?_⟩
      · show faultGo t 0 0 0 2 9 = none
        rw [h4]; exact i1
      · rw [er]
        refine ⟨by simp only [List.length_cons]; omega, by simp only [List.length_cons]; omega, h1, h2, ?_, ?_⟩
        · intro r hr
          rcases List.mem_cons.mp hr with rfl | hr
          · rfl
          · exact i4 r hr
        · intro r hr
          rcases List.mem_cons.mp hr with rfl | hr
          · exact h3
          · exact i5 r hr
      · rw [er, i2]
        unfold gridOf
        simp [List.map_flatten]
end Cf
end
section
set_option Elab.async false
/-! White cells, runs and lights of a lattice's rows, against the specification's. -/
namespace Cf
open ClLat
def isW (R : List (List Int)) (r c : Nat) : Bool := match R[r]? with
  | some row => (match row[c]? with
    | some b => !decide (b = 35)
    | none => false)
  | none => false
/-- the program's is_white, of any ints -/
def whiteI (R : List (List Int)) (x : Int × Int) : Bool := decide (0 ≤ x.1) && (decide (0 ≤ x.2) && isW R x.1.toNat x.2.toNat)
def cI (x : Cell) : Int × Int := ((x.1 : Nat), (x.2 : Nat))
theorem flat_at {α : Type} : ∀ (R : List (List α)) (w r c : Nat), (∀ x ∈ R, x.length = w) → c < w → R.flatten[r * w + c]? = (R[r]?).bind fun row => row[c]?
  | [], w, r, c, _, _ => by simp
  | x :: R, w, 0, c, h, hc => by
    have hx : x.length = w := h x List.mem_cons_self
    simp only [List.flatten_cons, Nat.zero_mul, Nat.zero_add, List.getElem?_cons_zero, Option.bind_some]
    rw [List.getElem?_append_left (by omega)]
  | x :: R, w, r + 1, c, h, hc => by
    have hx : x.length = w := h x List.mem_cons_self
    have ih := flat_at R w r c (fun y hy => h y (List.mem_cons_of_mem _ hy)) hc
    simp only [List.flatten_cons, List.getElem?_cons_succ]
    rw [List.getElem?_append_right (by rw [hx, Nat.succ_mul]; omega)]
    rw [show (r + 1) * w + c - x.length = r * w + c by rw [hx, Nat.succ_mul]; omega]
    exact ih
variable {R : List (List Int)} {w : Nat}
theorem Rect.row (h : Rect R w) {r : Nat} (hr : r < R.length) : ∃ row, R[r]? = some row ∧ row.length = w ∧ row ∈ R := by
  refine ⟨R[r], List.getElem?_eq_getElem hr, h.len _ (List.getElem_mem hr), List.getElem_mem hr⟩
theorem Rect.at_ (h : Rect R w) {r c : Nat} (hr : r < R.length) (hc : c < w) : ∃ row b, R[r]? = some row ∧ row[c]? = some b ∧ row.length = w ∧ isCellI b = true := by
  obtain ⟨row, e, hl, hm⟩ := h.row hr
  have hc' : c < row.length := by omega
  exact ⟨row, row[c], e, List.getElem?_eq_getElem hc', hl, h.cells row hm _ (List.getElem_mem hc')⟩
theorem isW_of (_ : Rect R w) {r c : Nat} {row : List Int} {b : Int} (e1 : R[r]? = some row) (e2 : row[c]? = some b) : isW R r c = !decide (b = 35) := by
  unfold isW
  rw [e1]
  simp only [e2]
theorem isW_out (h : Rect R w) {r c : Nat} (hrc : ¬ (r < R.length ∧ c < w)) : isW R r c = false := by
  unfold isW
  cases e : R[r]? with
  | none => rfl
  | some row =>
    have hr : r < R.length := (List.getElem?_eq_some_iff.mp e).1
    have hm : row ∈ R := List.mem_of_getElem? e
    have hl := h.len row hm
    have e2 : row[c]? = none := List.getElem?_eq_none_iff.mpr (by omega)
    simp only [e2]
theorem isW_in (h : Rect R w) {r c : Nat} (hw : isW R r c = true) : r < R.length ∧ c < w := by
  by_cases q : r < R.length ∧ c < w
  · exact q
  · rw [isW_out h q] at hw; cases hw
theorem cell_eq (h : Rect R w) {r c : Nat} (hr : r < R.length) (hc : c < w) {row : List Int} {b : Int} (e1 : R[r]? = some row) (e2 : row[c]? = some b) : (gridOf R w).cell (r, c) = cellI b := by
  unfold Grid.cell gridOf
  simp only
  rw [if_pos ⟨hr, hc⟩]
  have e := flat_at R w r c h.len hc
  rw [e1] at e
  simp only [Option.bind_some] at e
  rw [List.getD_eq_getElem?_getD, List.getElem?_map, e, e2]
  rfl
theorem cell_out (_ : Rect R w) {r c : Nat} (hrc : ¬ (r < R.length ∧ c < w)) : (gridOf R w).cell (r, c) = none := by
  unfold Grid.cell gridOf
  simp only
  rw [if_neg hrc]
theorem white_eq (h : Rect R w) (r c : Nat) : (gridOf R w).white (r, c) = isW R r c := by
  by_cases q : r < R.length ∧ c < w
  · obtain ⟨row, b, e1, e2, hl, hb⟩ := h.at_ q.1 q.2
    unfold Grid.white
    rw [cell_eq h q.1 q.2 e1 e2, isW_of h e1 e2]
    unfold cellI
    by_cases h35 : b = 35
    · simp [h35]
    · by_cases h46 : b = 46 <;> simp [h35, h46]
  · unfold Grid.white
    rw [cell_out h q, isW_out h q]
    rfl
theorem white_eq' (h : Rect R w) (x : Cell) : (gridOf R w).white x = isW R x.1 x.2 := white_eq h x.1 x.2
theorem whiteI_nat (x : Cell) : whiteI R (cI x) = isW R x.1 x.2 := by
  unfold whiteI cI
  simp
theorem whiteI_eq (h : Rect R w) (x : Cell) : whiteI R (cI x) = (gridOf R w).white x := by rw [whiteI_nat, white_eq' h]
theorem white_in (h : Rect R w) {x : Cell} (hw : (gridOf R w).white x = true) : x.1 < R.length ∧ x.2 < w := by
  rw [white_eq' h] at hw
  exact isW_in h hw
/-- the program's moved -/
def movedI (x : Int × Int) (d s : Int) : Int × Int := if d = 0 then (x.1, x.2 + s) else (x.1 + s, x.2)
theorem moved_on (x : Cell) (d : Nat) (k : Nat) : movedI (cI x) (d : Int) (k : Int) = cI (on d x k) := by
  unfold movedI on cI
  by_cases h : d = 0
  · subst h; simp
  · have h' : ¬ (d : Int) = 0 := by omega
    rw [if_neg h', if_neg h]
    simp
theorem moved_before (h : Rect R w) (x : Cell) (d : Nat) : whiteI R (movedI (cI x) (d : Int) (-1)) = (match before d x with
    | some y => (gridOf R w).white y
    | none => false) := by
  unfold movedI before
  by_cases hd : d = 0
  · subst hd
    by_cases h0 : x.2 = 0
    · simp [h0, cI, whiteI]
    · have e : ((cI x).1, (cI x).2 + -1) = cI (x.1, x.2 - 1) := by
        unfold cI
        simp only [Prod.mk.injEq, true_and]
        omega
      simp only [Int.natCast_zero, if_true, if_neg h0]
      rw [e, whiteI_eq h]
  · have hd' : ¬ (d : Int) = 0 := by omega
    rw [if_neg hd', if_neg hd]
    by_cases h0 : x.1 = 0
    · simp [h0, cI, whiteI]
    · have e : ((cI x).1 + -1, (cI x).2) = cI (x.1 - 1, x.2) := by
        unfold cI
        simp only [Prod.mk.injEq, and_true]
        omega
      rw [if_neg h0, e, whiteI_eq h]
/-! ### runs -/
theorem takeWhile_len {p : Nat → Bool} : ∀ (n k : Nat), k < n → (∀ j, j < k → p j = true) → p k = false → ((List.range n).takeWhile p).length = k := by
  have gen : ∀ (n s k : Nat), k < n → (∀ j, j < k → p (s + j) = true) → p (s + k) = false → ((List.range' s n).takeWhile p).length = k := by
    intro n
    induction n with
    | zero => intro s k h; omega
    | succ n ih =>
      intro s k hk hj hf
      rw [List.range'_succ]
      cases k with
      | zero =>
        rw [List.takeWhile_cons, show p s = false from hf]
        rfl
      | succ k =>
        have h0 : p s = true := hj 0 (Nat.succ_pos _)
        rw [List.takeWhile_cons, h0]
        simp only [if_true, List.length_cons]
        rw [ih (s + 1) k (by omega) (fun j h => by have := hj (j + 1) (by omega); rwa [show s + 1 + j = s + (j + 1) by omega])
          (by rwa [show s + 1 + k = s + (k + 1) by omega])]
  intro n k hk hj hf
  rw [List.range_eq_range']
  exact gen n 0 k hk (fun j h => by rw [Nat.zero_add]; exact hj j h) (by rw [Nat.zero_add]; exact hf)
theorem run_is (g : Grid) (d : Nat) (x : Cell) {k : Nat} (hk : k ≤ 9) (hj : ∀ j, j < k → g.white (on d x j) = true) (hf : g.white (on d x k) = false) : g.run d x = k :=
  takeWhile_len 10 k (by omega) hj hf
theorem on_zero (d : Nat) (x : Cell) : on d x 0 = x := by
  unfold on
  split <;> simp
/-- a white run ends within nine -/
theorem on_small (h : Rect R w) (d : Nat) (x : Cell) {k : Nat} (hw : (gridOf R w).white (on d x k) = true) : k < 9 := by
  have q := white_in h hw
  have h1 := h.r9
  have h2 := h.w9
  unfold on at q
  split at q <;> simp only at q <;> omega
theorem ends_at (h : Rect R w) (d : Nat) (x : Cell) : ∃ k, k ≤ 9 ∧ (∀ j, j < k → (gridOf R w).white (on d x j) = true) ∧ (gridOf R w).white (on d x k) = false := by
  have gen : ∀ n k, n + k = 9 → (∀ j, j < k → (gridOf R w).white (on d x j) = true) → ∃ k, k ≤ 9 ∧ (∀ j, j < k → (gridOf R w).white (on d x j) = true) ∧ (gridOf R w).white (on d x k) = false := by
    intro n
    induction n with
    | zero =>
      intro k hk hj
      refine ⟨k, by omega, hj, ?_⟩
      cases e : (gridOf R w).white (on d x k) with
      | false => rfl
      | true => have := on_small h d x e; omega
    | succ n ih =>
      intro k hk hj
      cases e : (gridOf R w).white (on d x k) with
      | false => exact ⟨k, by omega, hj, e⟩
      | true =>
        refine ih (k + 1) (by omega) fun j hlt => ?_
        by_cases q : j = k
        · rw [q]; exact e
        · exact hj j (by omega)
  exact gen 9 0 rfl (by omega)
theorem run_white (h : Rect R w) (d : Nat) (x : Cell) : (gridOf R w).run d x ≤ 9 ∧ (∀ j, j < (gridOf R w).run d x → (gridOf R w).white (on d x j) = true) ∧ (gridOf R w).white (on d x ((gridOf R w).run d x)) = false := by
  obtain ⟨k, h1, h2, h3⟩ := ends_at h d x
  have e := run_is (gridOf R w) d x h1 h2 h3
  rw [e]
  exact ⟨h1, h2, h3⟩
theorem run_two (h : Rect R w) (d : Nat) (x : Cell) : decide (2 ≤ (gridOf R w).run d x) = ((gridOf R w).white x && (gridOf R w).white (on d x 1)) := by
  obtain ⟨h1, h2, h3⟩ := run_white h d x
  rw [Bool.eq_iff_iff]
  simp only [decide_eq_true_eq, Bool.and_eq_true]
  constructor
  · intro q
    have a := h2 0 (by omega)
    have b := h2 1 (by omega)
    rw [on_zero] at a
    exact ⟨a, b⟩
  · rintro ⟨a, b⟩
    rw [← on_zero d x] at a
    by_cases q : 2 ≤ (gridOf R w).run d x
    · exact q
    · have : (gridOf R w).run d x = 0 ∨ (gridOf R w).run d x = 1 := by omega
      rcases this with e | e
      · rw [e, a] at h3; cases h3
      · rw [e, b] at h3; cases h3
/-- the program's begins_light -/
def beginsI (R : List (List Int)) (x : Int × Int) (d : Int) : Bool := if whiteI R (movedI x d (-1)) = true then false else (whiteI R x && whiteI R (movedI x d 1))
theorem begins_eq (h : Rect R w) (x : Cell) (d : Nat) : beginsI R (cI x) (d : Int) = (gridOf R w).begins d x := by
  unfold beginsI Grid.begins
  rw [moved_before h, run_two h, whiteI_eq h, show ((1 : Int)) = ((1 : Nat) : Int) from rfl, moved_on, whiteI_eq h]
  cases before d x with
  | none => simp
  | some y => cases hy : (gridOf R w).white y <;> simp [hy]
/-- a light as it is told by the program -/
def lightsFrom (g : Grid) (cs : List Cell) : List Light := (cs.filter fun (x : Cell) => g.begins 0 x || g.begins 1 x).zipIdx.flatMap fun (x : Cell × Nat) => [0, 1].filterMap fun (d : Nat) => if g.begins d x.1 = true then some ⟨x.2 + 1, d, x.1, g.run d x.1⟩ else none
theorem lights_from (g : Grid) : g.lights = lightsFrom g g.all := rfl
def countFrom (g : Grid) (cs : List Cell) : Nat := (cs.filter fun (x : Cell) => g.begins 0 x || g.begins 1 x).length
def waysAt (g : Grid) (x : Cell) : List Nat := [0, 1].filter fun d => g.begins d x
theorem ways_none (g : Grid) (x : Cell) : (g.begins 0 x || g.begins 1 x) = decide (0 < (waysAt g x).length) := by
  unfold waysAt
  cases h0 : g.begins 0 x <;> cases h1 : g.begins 1 x <;> simp [h0, h1]
theorem count_snoc (g : Grid) (cs : List Cell) (x : Cell) : countFrom g (cs ++ [x]) = if 0 < (waysAt g x).length then countFrom g cs + 1 else countFrom g cs := by
  unfold countFrom
  rw [List.filter_append, List.length_append]
  have := ways_none g x
  by_cases q : 0 < (waysAt g x).length
  · rw [if_pos q]
    rw [decide_eq_true q] at this
    simp [this]
  · rw [if_neg q]
    rw [decide_eq_false q] at this
    simp only [Bool.or_eq_false_iff] at this
    simp [this]
theorem lights_snoc (g : Grid) (cs : List Cell) (x : Cell) : lightsFrom g (cs ++ [x]) = lightsFrom g cs ++ (waysAt g x).map fun d => ⟨countFrom g (cs ++ [x]), d, x, g.run d x⟩ := by
  rw [count_snoc]
  unfold lightsFrom
  rw [List.filter_append]
  have e := ways_none g x
  have ew : ([0, 1].filterMap fun (d : Nat) => if g.begins d x = true then some (⟨countFrom g cs + 1, d, x, g.run d x⟩ : Light) else none) = (waysAt g x).map fun d => ⟨countFrom g cs + 1, d, x, g.run d x⟩ := by
    unfold waysAt
    cases h0 : g.begins 0 x <;> cases h1 : g.begins 1 x <;> simp [h0, h1]
  by_cases q : 0 < (waysAt g x).length
  · rw [if_pos q]
    rw [decide_eq_true q] at e
    have : (List.filter (fun x => g.begins 0 x || g.begins 1 x) [x]) = [x] := by simp [e]
    rw [this, List.zipIdx_append, List.flatMap_append]
    congr 1
    simp only [List.zipIdx_cons, List.zipIdx_nil, List.flatMap_cons, List.flatMap_nil, List.append_nil]
    rw [← ew]
    simp [countFrom]
  · rw [if_neg q]
    rw [decide_eq_false q] at e
    have : (List.filter (fun x => g.begins 0 x || g.begins 1 x) [x]) = [] := by simp only [List.filter_cons, e, Bool.false_eq_true, if_false, List.filter_nil]
    rw [this, List.append_nil]
    have : waysAt g x = [] := List.length_eq_zero_iff.mp (by omega)
    rw [this]
    simp
theorem lights_len (h : Rect R w) : ∀ l ∈ (gridOf R w).lights, 2 ≤ l.length ∧ l.length ≤ 9 := by
  intro l hl
  unfold Grid.lights at hl
  obtain ⟨x, _, hx⟩ := List.mem_flatMap.mp hl
  obtain ⟨d, _, hd⟩ := List.mem_filterMap.mp hx
  split at hd
  · rename_i hb
    have e := Option.some.inj hd
    rw [← e]
    unfold Grid.begins at hb
    rw [Bool.and_eq_true] at hb
    exact ⟨of_decide_eq_true hb.1, (run_white h d x.1).1⟩
  · cases hd
/-! ### all cells -/
theorem all_len (g : Grid) : g.all.length = g.rows * g.cols := by
  unfold Grid.all
  have : ∀ (l : List Nat), (l.flatMap fun (r : Nat) => (List.range g.cols).map fun (c : Nat) => (r, c)).length = l.length * g.cols := by
    intro l
    induction l with
    | nil => simp
    | cons a l ih => rw [List.flatMap_cons, List.length_append, ih, List.length_map, List.length_range, List.length_cons, Nat.succ_mul]; omega
  rw [this, List.length_range]
theorem lights_count (h : Rect R w) : (gridOf R w).lights.length ≤ 162 := by
  have gen : ∀ cs : List Cell, (lightsFrom (gridOf R w) cs).length ≤ 2 * cs.length := by
    intro cs
    have key : ∀ (n : Nat) (cs : List Cell), cs.length = n → (lightsFrom (gridOf R w) cs).length ≤ 2 * cs.length := by
      intro n
      induction n with
      | zero =>
        intro cs h0
        have := List.length_eq_zero_iff.mp h0
        subst this
        simp [lightsFrom]
      | succ n ih =>
        intro cs hn
        have hne : cs ≠ [] := by intro e; rw [e] at hn; simp at hn
        have e := (List.dropLast_concat_getLast hne).symm
        rw [e, lights_snoc, List.length_append, List.length_map, List.length_append, List.length_singleton]
        have h1 := ih cs.dropLast (by rw [List.length_dropLast]; omega)
        have h2 : (waysAt (gridOf R w) (cs.getLast hne)).length ≤ 2 := by
          unfold waysAt
          exact List.length_filter_le _ _
        omega
    exact key cs.length cs rfl
  have := gen (gridOf R w).all
  rw [all_len] at this
  have h1 : (gridOf R w).rows * (gridOf R w).cols ≤ 9 * 9 := Nat.mul_le_mul h.r9 h.w9
  rw [lights_from]
  omega
theorem lights_app (g : Grid) : ∀ (cs ds : List Cell), ∃ more, lightsFrom g (cs ++ ds) = lightsFrom g cs ++ more := by
  intro cs ds
  unfold lightsFrom
  rw [List.filter_append, List.zipIdx_append, List.flatMap_append]
  exact ⟨_, rfl⟩
theorem lights_take (g : Grid) (cs : List Cell) (i : Nat) : (lightsFrom g (cs.take i)).length ≤ (lightsFrom g cs).length := by
  obtain ⟨more, e⟩ := lights_app g (cs.take i) (cs.drop i)
  rw [List.take_append_drop] at e
  rw [e, List.length_append]
  omega
/-! ### what is due -/
theorem text_of {ns : List Int} (h : AreBytes ns) : FillNeutral.text? ns = some (toB ns) := by
  unfold FillNeutral.text?
  rw [if_pos]
  · rfl
  · unfold NeutralIO.bytes
    rw [List.all_eq_true]
    intro b hb
    obtain ⟨h1, h2⟩ := h b hb
    simp [h1, h2]
theorem grid_err {ns : List Int} (h : AreBytes ns) {p : Nat} (e : faultM ns = some p) : readGrid (toB ns) = .error p := by
  have q := read_eq ns h
  cases r : readGrid (toB ns) with
  | error z =>
    rw [r] at q
    have q : faultM ns = some z := q
    rw [e] at q
    rw [Option.some.inj q]
  | ok g =>
    rw [r] at q
    have q : faultM ns = none ∧ _ := q
    rw [e] at q
    exact absurd q.1 (by simp)
theorem grid_ok {ns : List Int} (h : AreBytes ns) (e : faultM ns = none) : ∃ w, Rect (rowsM ns) w ∧ readGrid (toB ns) = .ok (gridOf (rowsM ns) w) := by
  have q := read_eq ns h
  cases r : readGrid (toB ns) with
  | error z =>
    rw [r] at q
    have q : faultM ns = some z := q
    rw [e] at q
    cases q
  | ok g =>
    rw [r] at q
    obtain ⟨_, w, h1, h2⟩ := (q : faultM ns = none ∧ ∃ w, Rect (rowsM ns) w ∧ g = gridOf (rowsM ns) w)
    exact ⟨w, h1, by rw [h2]⟩
end Cf
end
section
set_option Elab.async false
set_option linter.all false
set_option maxRecDepth 100000
namespace L2
open PySem PySem.Spec PyProof.Rows
theorem pe_globI {X : Cx} {x : Str} {i : Int} {pos : Pos} (hg : Gl X x) (h : ∃ t, X.mg x = some (.int i t)) (hd : (x == ("__debug__" : Str)) = false := by decide) : PE X (.Name x pos) (tC (.int i)) := by
  obtain ⟨t, h⟩ := h
  exact pe_glob hg h ⟨t, rfl⟩ hd
theorem Same.upd {H : Hp} {p : Addr} {o : HO} (h : H p = none) : Same H (L2.upd H p o) := fun b u e => by
  rw [upd_ne (ne_of_none e h)]; exact e
theorem Same.updR {H0 H : Hp} {p : Addr} {o : HO} (s : Same H0 H) (h : H0 p = none) : Same H0 (L2.upd H p o) := fun b u e => by
  rw [upd_ne (ne_of_none e h)]; exact s b u e
/-! ### a heap without one address -/
def Hid (H : Hp) (l : Addr) : Hp := fun b => if b = l then none else H b
theorem Hid_ne {H : Hp} {b l : Addr} (h : b ≠ l) : Hid H l b = H b := by unfold Hid; rw [if_neg h]
theorem Hid_upd {H : Hp} {l : Addr} {o : HO} : Hid (upd H l o) l = Hid H l := by
  funext b
  unfold Hid
  by_cases h : b = l
  · rw [if_pos h, if_pos h]
  · rw [if_neg h, if_neg h, upd_ne h]
theorem Hid_get {H : Hp} {b l : Addr} {o : HO} (h : Hid H l b = some o) : b ≠ l ∧ H b = some o := by
  unfold Hid at h
  by_cases e : b = l
  · rw [if_pos e] at h; cases h
  · rw [if_neg e] at h; exact ⟨e, h⟩
theorem Hid.same {H : Hp} {l : Addr} : Same (Hid H l) H := fun b o e => (Hid_get e).2
theorem Same.hid {H H' : Hp} {l : Addr} (s : Same H H') : Same (Hid H l) (Hid H' l) := fun b o e => by
  obtain ⟨h1, h2⟩ := Hid_get e
  rw [Hid_ne h1]; exact s b o h2
/-- what a heap knew ahead of l is known without l -/
theorem Same.toHid {H0 H : Hp} {l : Addr} (s : Same H0 H) (h : H0 l = none) : Same H0 (Hid H l) := fun b o e => by
  rw [Hid_ne (ne_of_none e h)]; exact s b o e
/-! ### addresses that bear data, one by one -/
def Al {α : Type} (P : Addr → α → Prop) : List Addr → List α → Prop
  | [], [] => True
  | a :: as, x :: xs => P a x ∧ Al P as xs
  | _, _ => False
section
variable {α : Type} {P P' : Addr → α → Prop}
theorem Al.nil : Al P [] [] := trivial
theorem Al.mono (f : ∀ a x, P a x → P' a x) : ∀ {as : List Addr} {xs : List α}, Al P as xs → Al P' as xs
  | [], [], _ => trivial
  | _ :: _, _ :: _, h => ⟨f _ _ h.1, Al.mono f h.2⟩
  | [], _ :: _, h => h.elim
  | _ :: _, [], h => h.elim
theorem Al.length : ∀ {as : List Addr} {xs : List α}, Al P as xs → as.length = xs.length
  | [], [], _ => rfl
  | _ :: as, _ :: xs, h => by rw [List.length_cons, List.length_cons, Al.length h.2]
  | [], _ :: _, h => h.elim
  | _ :: _, [], h => h.elim
theorem Al.append : ∀ {as bs : List Addr} {xs ys : List α}, Al P as xs → Al P bs ys → Al P (as ++ bs) (xs ++ ys)
  | [], _, [], _, _, h => h
  | _ :: _, _, _ :: _, _, h, h' => ⟨h.1, Al.append h.2 h'⟩
  | [], _, _ :: _, _, h, _ => h.elim
  | _ :: _, _, [], _, h, _ => h.elim
theorem Al.one {a : Addr} {x : α} (h : P a x) : Al P [a] [x] := ⟨h, trivial⟩
theorem Al.get : ∀ {as : List Addr} {xs : List α} {i : Nat} {x : α}, Al P as xs → xs[i]? = some x → ∃ a, as[i]? = some a ∧ P a x
  | [], [], i, x, _, e => by simp at e
  | a :: _, y :: _, 0, x, h, e => by
    have e' : y = x := Option.some.inj e
    subst e'
    exact ⟨a, rfl, h.1⟩
  | _ :: as, _ :: xs, i + 1, x, h, e => Al.get (i := i) h.2 (by simpa using e)
  | [], _ :: _, _, _, h, _ => h.elim
  | _ :: _, [], _, _, h, _ => h.elim
theorem Al.at_ : ∀ {as : List Addr} {xs : List α} {i : Nat} {a : Addr}, Al P as xs → as[i]? = some a → ∃ x, xs[i]? = some x ∧ P a x
  | [], [], i, a, _, e => by simp at e
  | b :: _, y :: _, 0, a, h, e => by
    have e' : b = a := Option.some.inj e
    subst e'
    exact ⟨y, rfl, h.1⟩
  | _ :: as, _ :: xs, i + 1, a, h, e => Al.at_ (i := i) h.2 (by simpa using e)
  | [], _ :: _, _, _, h, _ => h.elim
  | _ :: _, [], _, _, h, _ => h.elim
end
/-- the item of a list of addresses -/
theorem refs_get {as : List Addr} {i : Nat} {v : V} (h : (as.map V.ref)[i]? = some v) : ∃ a, as[i]? = some a ∧ v = .ref a := by
  rw [List.getElem?_map] at h
  cases e : as[i]? with
  | none => rw [e] at h; cases h
  | some a => rw [e] at h; exact ⟨a, rfl, (Option.some.inj h).symm⟩
theorem ints_get {ns : List Int} {i : Nat} {v : V} (h : (ns.map V.int)[i]? = some v) : ∃ n, ns[i]? = some n ∧ v = .int n := by
  rw [List.getElem?_map] at h
  cases e : ns[i]? with
  | none => rw [e] at h; cases h
  | some a => rw [e] at h; exact ⟨a, rfl, (Option.some.inj h).symm⟩
theorem map_at {α : Type} {f : α → V} {xs : List α} {i : Nat} {x : α} (h : xs[i]? = some x) : (xs.map f)[i]? = some (f x) := by
  rw [List.getElem?_map, h]; rfl
theorem take_snoc {α : Type} : ∀ {l : List α} {i : Nat} {x : α}, l[i]? = some x → l.take (i + 1) = l.take i ++ [x]
  | [], i, x, h => by simp at h
  | a :: l, 0, x, h => by
    have e : a = x := Option.some.inj h
    subst e
    rfl
  | a :: l, i + 1, x, h => by
    have ih := take_snoc (l := l) (i := i) (x := x) h
    show a :: l.take (i + 1) = a :: l.take i ++ [x]
    rw [ih]
    rfl
theorem drop_at {α : Type} : ∀ {l : List α} {i : Nat} {x : α}, l[i]? = some x → l.drop i = x :: l.drop (i + 1)
  | [], i, x, h => by simp at h
  | a :: l, 0, x, h => by
    have e : a = x := Option.some.inj h
    subst e
    rfl
  | a :: l, i + 1, x, h => by
    have ih := drop_at (l := l) (i := i) (x := x) h
    show l.drop i = x :: l.drop (i + 1)
    exact ih
theorem small {n : Nat} (h : n ≤ 100000) : n < sizeLine := Nat.lt_of_le_of_lt h (by decide)
theorem smallE {n : Nat} (h : n ≤ 100000) : n ≤ sizeLine := Nat.le_of_lt (small h)
/-! ### enumerate, the list left as it is -/
theorem for_enum {K : PySem.W.Frag} {a : Addr} {xs : List V} {g : TG} {tb : TS} {D : Ends} {σ : St} {H : Hp} (Pv : Nat → St → Hp → Prop) (h0 : Pv 0 σ H) (hl : ∀ i σ H, i ≤ xs.length → Pv i σ H → SqL K H a xs)
    (hs : ∀ i x σ H T, xs[i]? = some x → Pv i σ H → H T = none → g (.ref T) σ (upd H T (.tup [.int (i : Nat), x])) fun σ2 H2 => tb { D with nx := Pv (i + 1), ct := Pv (i + 1), bk := D.nx } σ2 H2) (hd : ∀ σ H, Pv xs.length σ H → D.nx σ H) :
    ∃ W : Nat → Nat → St → Hp → Prop, (∃ m, W 0 m σ H) ∧ ∀ i m σ H, W i m σ H →
      ((Ite K a).stop i H ∧ D.nx σ H) ∨ ((Ite K a).go i H ∧ ∃ N : St → Hp → Prop, (∀ σ' H', N σ' H' → ∃ m', m' < m ∧ W (i + 1) m' σ' H') ∧ ∀ x H', (Ite K a).yld i H x H' → g x σ H' fun σ2 H2 => tb { D with nx := N, ct := N, bk := D.nx } σ2 H2) := by
  refine ⟨fun i m σ H => m = xs.length - i ∧ i ≤ xs.length ∧ Pv i σ H, ⟨xs.length, by simp, Nat.zero_le _, h0⟩, ?_⟩
  rintro i m σ H ⟨rfl, hi, p⟩
  have q := hl i σ H hi p
  by_cases hlt : i < xs.length
  · refine .inr ⟨⟨xs, xs[i], q, by simp [hlt]⟩, Pv (i + 1), fun σ' H' p' => ⟨xs.length - (i + 1), by omega, rfl, hlt, p'⟩, fun v H' y => ?_⟩
    obtain ⟨T, x, e, hT, eH, y⟩ := y
    subst e eH
    exact hs i x σ _ T (y xs q) p hT
  · have e : i = xs.length := by omega
    subst e
    exact .inl ⟨⟨xs, q, Nat.le_refl _⟩, hd σ H p⟩
/-! ### data of lattices -/
def PairAt (H : Hp) (p : Addr) (x : Int × Int) : Prop := H p = some (.tup [.int x.1, .int x.2])
def RowAt (H : Hp) (p : Addr) (r : List Int) : Prop := H p = some (.lst (r.map V.int))
structure RowsAt (H : Hp) (a : Addr) (R : List (List Int)) : Prop where
  ex : ∃ as, H a = some (.lst (as.map V.ref)) ∧ Al (RowAt H) as R
structure CellsAt (H : Hp) (a : Addr) (cs : List ClLat.Cell) : Prop where
  ex : ∃ as, H a = some (.lst (as.map V.ref)) ∧ Al (fun p (x : ClLat.Cell) => PairAt H p (Cf.cI x)) as cs
theorem PairAt.same {H H' : Hp} {p : Addr} {x : Int × Int} (s : Same H H') (h : PairAt H p x) : PairAt H' p x := s _ _ h
theorem RowsAt.same {H H' : Hp} {a : Addr} {R : List (List Int)} (s : Same H H') (h : RowsAt H a R) : RowsAt H' a R := by
  obtain ⟨as, h1, h2⟩ := h.ex
  exact ⟨as, s _ _ h1, Al.mono (fun _ _ q => s _ _ q) h2⟩
theorem CellsAt.same {H H' : Hp} {a : Addr} {cs : List ClLat.Cell} (s : Same H H') (h : CellsAt H a cs) : CellsAt H' a cs := by
  obtain ⟨as, h1, h2⟩ := h.ex
  exact ⟨as, s _ _ h1, Al.mono (fun _ _ q => s _ _ q) h2⟩
/-- a tuple is no list -/
theorem PairAt.hid {H : Hp} {l p : Addr} {xs : List V} {x : Int × Int} (h : PairAt H p x) (hl : H l = some (.lst xs)) : PairAt (Hid H l) p x := by
  have : p ≠ l := ne_of h hl (by intro z; cases z)
  unfold PairAt
  rw [Hid_ne this]
  exact h
theorem PairAt.upd {H : Hp} {l p : Addr} {xs : List V} {o : HO} {x : Int × Int} (h : PairAt H p x) (hl : H l = some (.lst xs)) : PairAt (L2.upd H l o) p x := by
  have : p ≠ l := ne_of h hl (by intro z; cases z)
  unfold PairAt
  rw [upd_ne this]
  exact h
theorem Al.cells_upd {H : Hp} {l : Addr} {xs : List V} {o : HO} {as : List Addr} {cs : List ClLat.Cell} (h : Al (fun p (x : ClLat.Cell) => PairAt H p (Cf.cI x)) as cs) (hl : H l = some (.lst xs)) :
    Al (fun p (x : ClLat.Cell) => PairAt (L2.upd H l o) p (Cf.cI x)) as cs := Al.mono (fun _ _ q => PairAt.upd q hl) h
theorem bytes_in {ns : List Int} (h : (ns.all (PySem.W.Codec.inInt 0 255)) = true) : Cf.AreBytes ns := fun b hb =>
  PySem.W.Codec.inInt_iff.mp (List.all_eq_true.mp h b hb)
/-- a place, or None -/
def optV : Option Nat → V
  | none => .non
  | some p => .int (p : Nat)
/-- what a refusal is: None, or a new list of the number and the place -/
def Refusal (z : Int) (o : Option Nat) (H : Hp) (Q : VK) : Prop := match o with
  | none => ∀ H', Same H H' → Q .non H'
  | some f => ∀ H' p, Same H H' → H p = none → H' p = some (.lst [.int z, .int (f : Nat)]) → Q (.ref p) H'
/-! ### zip of two lists that are left as they are -/
theorem for_zip {K : PySem.W.Frag} {a b : Addr} {xs ys : List V} {g : TG} {tb : TS} {D : Ends} {σ : St} {H : Hp} (Pv : Nat → St → Hp → Prop) (h0 : Pv 0 σ H) (hl : ∀ i σ H, i ≤ xs.length → i ≤ ys.length → Pv i σ H → SqL K H a xs ∧ SqL K H b ys)
    (hs : ∀ i x y σ H T, xs[i]? = some x → ys[i]? = some y → Pv i σ H → H T = none → g (.ref T) σ (upd H T (.tup [x, y])) fun σ2 H2 => tb { D with nx := Pv (i + 1), ct := Pv (i + 1), bk := D.nx } σ2 H2) (hd : ∀ i σ H, i ≤ xs.length → i ≤ ys.length → (xs.length ≤ i ∨ ys.length ≤ i) → Pv i σ H → D.nx σ H) :
    ∃ W : Nat → Nat → St → Hp → Prop, (∃ m, W 0 m σ H) ∧ ∀ i m σ H, W i m σ H →
      ((Itz K a b).stop i H ∧ D.nx σ H) ∨ ((Itz K a b).go i H ∧ ∃ N : St → Hp → Prop, (∀ σ' H', N σ' H' → ∃ m', m' < m ∧ W (i + 1) m' σ' H') ∧ ∀ x H', (Itz K a b).yld i H x H' → g x σ H' fun σ2 H2 => tb { D with nx := N, ct := N, bk := D.nx } σ2 H2) := by
  refine ⟨fun i m σ H => m = xs.length - i ∧ i ≤ xs.length ∧ i ≤ ys.length ∧ Pv i σ H, ⟨xs.length, by simp, Nat.zero_le _, Nat.zero_le _, h0⟩, ?_⟩
  rintro i m σ H ⟨rfl, hi, hj, p⟩
  obtain ⟨q1, q2⟩ := hl i σ H hi hj p
  by_cases h1 : i < xs.length
  · by_cases h2 : i < ys.length
    · refine .inr ⟨⟨xs, ys, xs[i], ys[i], q1, q2, by simp [h1], by simp [h2]⟩, Pv (i + 1), fun σ' H' p' => ⟨xs.length - (i + 1), by omega, rfl, h1, h2, p'⟩, fun v H' y => ?_⟩
      obtain ⟨T, x, z, e, hT, eH, y1, y2⟩ := y
      subst e eH
      exact hs i x z σ _ T (y1 xs q1) (y2 ys q2) p hT
    · exact .inl ⟨⟨xs, ys, q1, q2, .inr (by omega)⟩, hd i σ H hi hj (.inr (by omega)) p⟩
  · exact .inl ⟨⟨xs, ys, q1, q2, .inl (by omega)⟩, hd i σ H hi hj (.inl (by omega)) p⟩
/-! ### a cell, or None -/
structure PairsAt (H : Hp) (a : Addr) (cs : List (Int × Int)) : Prop where
  ex : ∃ as, H a = some (.lst (as.map V.ref)) ∧ Al (PairAt H) as cs
theorem PairsAt.same {H H' : Hp} {a : Addr} {cs : List (Int × Int)} (s : Same H H') (h : PairsAt H a cs) : PairsAt H' a cs := by
  obtain ⟨as, h1, h2⟩ := h.ex
  exact ⟨as, s _ _ h1, Al.mono (fun _ _ q => s _ _ q) h2⟩
theorem cut_to {xs : List V} (k : Nat) : cutV xs none (some (k : Int)) = xs.take k := by
  unfold cutV
  rw [HT.sIx_nat, HT.sIx_none, Nat.sub_zero, List.drop_zero]
  by_cases h : k ≤ xs.length
  · rw [Nat.min_eq_left h]
  · rw [Nat.min_eq_right (by omega), List.take_of_length_le (Nat.le_refl _), List.take_of_length_le (by omega)]
def natsV (l : List Nat) : List V := l.map fun (n : Nat) => V.int (n : Nat)
theorem nats_get {l : List Nat} {i : Nat} {v : V} (h : (natsV l)[i]? = some v) : ∃ n, l[i]? = some n ∧ v = .int (n : Nat) := by
  unfold natsV at h
  rw [List.getElem?_map] at h
  cases e : l[i]? with
  | none => rw [e] at h; cases h
  | some a => rw [e] at h; exact ⟨a, rfl, (Option.some.inj h).symm⟩
theorem nats_flat (l : List Nat) : (natsV l).all flatV = true := by
  rw [List.all_eq_true]
  intro v hv
  unfold natsV at hv
  obtain ⟨n, _, rfl⟩ := List.mem_map.mp hv
  rfl
theorem nats_in (n : Nat) (l : List Nat) : inV (.int (n : Nat)) (natsV l) = l.contains n := by
  unfold inV natsV
  rw [List.any_map]
  induction l with
  | nil => rfl
  | cons a l ih =>
    rw [List.any_cons, List.contains_cons, ih]
    congr 1
    show (((a : Nat) : Int) == ((n : Nat) : Int)) = (n == a)
    by_cases h : n = a
    · subst h; simp
    · have h1 : (n == a) = false := by rw [beq_eq_false_iff_ne]; exact h
      rw [h1, beq_eq_false_iff_ne]
      omega
/-! ### triples -/
def TripAt (H : Hp) (p : Addr) (y : Nat × Nat × Nat) : Prop := H p = some (.tup [.int (y.1 : Nat), .int (y.2.1 : Nat), .int (y.2.2 : Nat)])
structure TripsAt (H : Hp) (a : Addr) (cs : List (Nat × Nat × Nat)) : Prop where
  ex : ∃ as, H a = some (.lst (as.map V.ref)) ∧ Al (TripAt H) as cs
theorem TripsAt.same {H H' : Hp} {a : Addr} {cs : List (Nat × Nat × Nat)} (s : Same H H') (h : TripsAt H a cs) : TripsAt H' a cs := by
  obtain ⟨as, h1, h2⟩ := h.ex
  exact ⟨as, s _ _ h1, Al.mono (fun _ _ q => s _ _ q) h2⟩
theorem PairsAt.hid {H : Hp} {q l : Addr} {xs : List V} {cs : List (Int × Int)} (h : PairsAt H q cs) (hl : H l = some (.lst xs)) (ne : q ≠ l) : PairsAt (Hid H l) q cs := by
  obtain ⟨as, h1, h2⟩ := h.ex
  exact ⟨as, by rw [Hid_ne ne]; exact h1, Al.mono (fun _ _ z => PairAt.hid z hl) h2⟩
theorem TripsAt.hid {H : Hp} {q l : Addr} {xs : List V} {cs : List (Nat × Nat × Nat)} (h : TripsAt H q cs) (hl : H l = some (.lst xs)) (ne : q ≠ l) : TripsAt (Hid H l) q cs := by
  obtain ⟨as, h1, h2⟩ := h.ex
  refine ⟨as, by rw [Hid_ne ne]; exact h1, Al.mono (fun p _ z => ?_) h2⟩
  have : p ≠ l := ne_of z hl (by intro e; cases e)
  unfold TripAt
  rw [Hid_ne this]
  exact z
theorem boot_listC : bootBuiltins "list" = some (.type "list") := by decide +kernel
end L2
end
section
set_option Elab.async false
set_option linter.all false
set_option maxRecDepth 100000
/-! An own exception that is raised, passes defs and is caught: rules that the hand layer lacks. -/
namespace L2
open PySem PySem.Spec PyProof.Rows
abbrev bmE : List Value := [.type "Exception", .type "BaseException", .type "object"]
/-- the class at C is an own heir of Exception -/
def ExcC (K : PySem.W.Frag) (C : Addr) : Prop := PySem.W.excIn K C bmE "Exception.__new__" = true
theorem exc_obj {K : PySem.W.Frag} {h : Heap} {C : Addr} (X : K.In h) (q : ExcC K C) :
    ∃ bm N nm qn bs hdct sn sub ab col dd k0 k1 k2 k3 k5 mN, h.get? C = some (excClassObj nm qn C N bs bm hdct sn sub ab col dd k0 k1 k2 k3 k5 "Exception.__new__") ∧ h.Ns N mN ∧ mN "__init__" = none ∧ OwnTail h bmE bm := by
  unfold ExcC PySem.W.excIn at q
  split at q
  · rename_i dd cd sl ho
    split at q
    · rename_i C2 bm k0 k1 k2 k3 n k5 hm hs
      simp only [Bool.and_eq_true, beq_iff_eq, Bool.not_eq_true'] at q
      obtain ⟨⟨⟨⟨⟨rfl, rfl⟩, hdel⟩, ht⟩, hok⟩, hni⟩ := q
      obtain ⟨nm, bs, mro, ns, qn, hd, sn, sub, ab, col, del⟩ := cd
      dsimp only at hm hdel hok hni
      subst hm hdel
      obtain rfl : sl = #[k0, k1, k2, k3, some (.builtin "Exception.__new__"), k5] := by
        obtain ⟨l⟩ := sl
        simp only at hs
        rw [hs]
      exact ⟨bm, ns, nm, qn, bs, hd, sn, sub, ab, col, dd, k0, k1, k2, k3, k5, _, X _ _ ho, .of_isNs (PySem.W.isNs_of_in X hok), PySem.W.nsMap_none_of_in X hok hni, PySem.W.tail_of_in X ht⟩
    · cases q
  · cases q
/-- an exception with its last station, neither of them known ahead (h0), neither tracked -/
structure Fly (h0 h : Heap) (H : Hp) (a C : Addr) : Prop where
  ex : ∃ oe vs T oT ts, h.get? a = some oe ∧ oe.cls = .ref C ∧ oe.data = .fields vs ∧ vs[1]? = some (.ref T) ∧ T ≠ a ∧ h.get? T = some oT ∧ oT.data = .fields ts ∧ ts[3]? = some .none ∧ h0.get? T = none ∧ H T = none
  new : h0.get? a = none
  off : H a = none
/-- what changes when a frame is noted: slots of frames, the records at bad -/
structure Chg (fr bad : List Addr) (h h' : Heap) : Prop where
  keep : ∀ b o, h.get? b = some o → b ∉ fr → b ∉ bad → h'.get? b = some o
  slot : ∀ b o, h.get? b = some o → b ∈ fr → b ∉ bad → ∃ sl, h'.get? b = some { o with slots := sl }
section
variable {M : Model} {A : Around} {E : Value → Shared → Prop} {s : Shared}
/-- a new station -/
theorem cf_station {base : Heap} {env : Env} {outer : List Env} {L e : Addr} {oe : Obj} {vs : Array Value} {head : Value} {b0 : Bool} {Q : Unit → Shared → Prop} (hfr : A.frames = some (env :: outer)) (hl : s.heap.FunFrames base (env :: outer)) (hf : env.frame = some L)
    (he : s.heap.get? e = some oe) (hd : oe.data = .fields vs) (hsz : 1 < vs.size)
    (h : ∀ h' T, Chg (frs (env :: outer)) [e] s.heap h' → s.heap.get? T = none → T ≠ e → (∃ oe2 vs2 oT ts, h'.get? e = some oe2 ∧ oe2.cls = oe.cls ∧ oe2.data = .fields vs2 ∧ vs2[1]? = some (.ref T) ∧ h'.get? T = some oT ∧ oT.data = .fields ts ∧ ts[3]? = some .none) → Q () { s with heap := h' }) :
    wpAny M A (do let a ← frameOf env; let pl ← entryPlaceOf L b0; let b ← EntryCells.newEntry head a .none (rawInt L) .none pl; setField (.ref e) 1 b) (fun _ s2 => wpAny M A (setFlight (.ref e) none) Q E s2) E s := by
  have hnf : e ∉ frs (env :: outer) := fun hm => by
    obtain ⟨_, o, ho, hn⟩ := hl.mem hm
    rw [he] at ho
    exact hn vs (by rw [← Option.some.inj ho]; exact hd)
  refine wpAny_bind (wpAny_frameOf_fun hfr hl hf fun h1 g1 => ?_)
  refine wpAny_bind (wpAny_entryPlaceOf fun pl hpl => ?_)
  unfold EntryCells.newEntry newFields
  refine wpAny_bind (wpAny_newObj_type ?_ (hpl.sizeOk5 _ _ _ _ _))
  have he1 : h1.get? e = some oe := (g1.2.1 e hnf).trans he
  generalize hO : ({ cls := .type "traceback", dict := none, data := .fields ([head, .ref L, .none, rawInt L, .none] ++ (if pl.isEmpty then List.replicate 6 Value.none else pl)).toArray } : Obj) = O
  have hOd : O.data = .fields ([head, .ref L, .none, rawInt L, .none] ++ (if pl.isEmpty then List.replicate 6 Value.none else pl)).toArray := by rw [← hO]
  have he2 := Heap.get?_push_of_some O he1
  refine wpAny_setField he2 hd hsz ?_
  have hTe : h1.objs.size ≠ e := Nat.ne_of_gt (Heap.lt_size he1)
  have hd3 := Obj.data_mapFields hd (·.setIfInBounds 1 (Value.ref h1.objs.size))
  have he3 := Heap.get?_update_self (Obj.mapFields (·.setIfInBounds 1 (Value.ref h1.objs.size))) he2 (Obj.isFreed_of_fields hd3)
  have hT2 : (h1.push O).get? h1.objs.size = some O := Heap.get?_push_size h1 (by rw [← hO]; rfl)
  have hT3 := (Heap.get?_update_other (h1.push O) (Obj.mapFields (·.setIfInBounds 1 (Value.ref h1.objs.size))) (Ne.symm hTe)).trans hT2
  unfold setFlight
  refine wpAny_bind (wpAny_field he3 hd3 (x := .ref h1.objs.size) (by simp [hsz]) ?_)
  rw [if_pos (show (Value.ref h1.objs.size != Value.none) = true from by simp)]
  refine wpAny_setField hT3 hOd (by simp only [List.size_toArray, List.length_append, List.length_cons, List.length_nil] <;> omega) (h _ h1.objs.size ?_ ?_ hTe ?_)
  · have keep : ∀ b o, b ≠ e → h1.get? b = some o → (((h1.push O).update e (Obj.mapFields (·.setIfInBounds 1 (Value.ref h1.objs.size)))).update h1.objs.size (Obj.mapFields (·.setIfInBounds 3 ((none : Option Addr).elim Value.none fun f => rawInt f)))).get? b = some o := fun b o hb q => by
      rw [Heap.get?_update_other _ _ (Nat.ne_of_gt (Heap.lt_size q)), Heap.get?_update_other _ _ (Ne.symm hb)]
      exact Heap.get?_push_of_some _ q
    refine ⟨fun b o q hb hbad => keep b o (fun z => hbad (by simp [z])) ((g1.2.1 b hb).trans q), fun b o q _ hbad => ?_⟩
    obtain ⟨sl, q2⟩ := g1.2.2 b o q
    exact ⟨sl, keep b _ (fun z => hbad (by simp [z])) q2⟩
  · exact Heap.get?_none_of_le (by rw [g1.1]; exact Nat.le_refl _)
  · refine ⟨_, _, _, _, (Heap.get?_update_other _ _ hTe).trans he3, Obj.cls_mapFields _ _, hd3, by simp [hsz], Heap.get?_update_self _ hT3 (Obj.isFreed_of_fields (Obj.data_mapFields hOd _)), Obj.data_mapFields hOd _, ?_⟩
    rcases hpl with rfl | ⟨_, _, _, _, _, _, _, rfl⟩ <;> simp
/-- the frame is noted, the first time -/
theorem cf_note_first {base : Heap} {env : Env} {outer : List Env} {L e : Addr} {oe : Obj} {vs : Array Value} {Q : Unit → Shared → Prop} (hfr : A.frames = some (env :: outer)) (hl : s.heap.FunFrames base (env :: outer)) (hf : env.frame = some L)
    (he : s.heap.get? e = some oe) (hd : oe.data = .fields vs) (h1 : vs[1]? = some .none)
    (h : ∀ h' T, Chg (frs (env :: outer)) [e] s.heap h' → s.heap.get? T = none → T ≠ e → (∃ oe2 vs2 oT ts, h'.get? e = some oe2 ∧ oe2.cls = oe.cls ∧ oe2.data = .fields vs2 ∧ vs2[1]? = some (.ref T) ∧ h'.get? T = some oT ∧ oT.data = .fields ts ∧ ts[3]? = some .none) → Q () { s with heap := h' }) :
    wpAny M A (noteFrame (.ref e) env) (fun _ s2 => wpAny M A (setFlight (.ref e) none) Q E s2) E s := by
  unfold noteFrame
  simp only [hf]
  refine wpAny_bind (wpAny_field he hd h1 ?_)
  rw [if_neg (by decide)]
  exact cf_station hfr hl hf he hd (Array.getElem?_eq_some_iff.mp h1).1 h
/-- the frame is noted, behind another -/
theorem cf_note_next {base : Heap} {env : Env} {outer : List Env} {L e T0 : Addr} {oe oT0 : Obj} {vs ts0 : Array Value} {Q : Unit → Shared → Prop} (hfr : A.frames = some (env :: outer)) (hl : s.heap.FunFrames base (env :: outer)) (hf : env.frame = some L)
    (he : s.heap.get? e = some oe) (hd : oe.data = .fields vs) (h1 : vs[1]? = some (.ref T0)) (hne : T0 ≠ e) (hT : s.heap.get? T0 = some oT0) (hdT : oT0.data = .fields ts0) (h3 : ts0[3]? = some .none)
    (h : ∀ h' T, Chg (frs (env :: outer)) [e, T0] s.heap h' → s.heap.get? T = none → T ≠ e → (∃ oe2 vs2 oT ts, h'.get? e = some oe2 ∧ oe2.cls = oe.cls ∧ oe2.data = .fields vs2 ∧ vs2[1]? = some (.ref T) ∧ h'.get? T = some oT ∧ oT.data = .fields ts ∧ ts[3]? = some .none) → Q () { s with heap := h' }) :
    wpAny M A (noteFrame (.ref e) env) (fun _ s2 => wpAny M A (setFlight (.ref e) none) Q E s2) E s := by
  unfold noteFrame
  simp only [hf]
  refine wpAny_bind (wpAny_field he hd h1 ?_)
  rw [if_pos (show (Value.ref T0 != Value.none) = true from by simp)]
  refine wpAny_bind (wpAny_field hT hdT h3 ?_)
  rw [if_neg (show ¬ ((Value.none == rawInt L) = true) from by simp [rawInt])]
  refine wpAny_bind (wpAny_setField hT hdT (Array.getElem?_eq_some_iff.mp h3).1 ?_)
  have other : ∀ b, b ≠ T0 → (s.heap.update T0 (Obj.mapFields (·.setIfInBounds 3 Value.none))).get? b = s.heap.get? b := fun b hb => Heap.get?_update_other _ _ (Ne.symm hb)
  have nofr : ∀ b o, s.heap.get? b = some o → (∀ vs, o.data ≠ .fields vs) → b ≠ T0 := fun b o hb hn q => by
    rw [q, hT] at hb
    exact hn ts0 (by rw [← Option.some.inj hb]; exact hdT)
  have hTfr : T0 ∉ frs (env :: outer) := fun hm => by
    obtain ⟨_, o, ho, hn⟩ := hl.mem hm
    exact nofr T0 o ho hn rfl
  refine cf_station hfr (hl.of_keeps fun b o hb hn => ⟨o, (other b (nofr b o hb hn)).trans hb, rfl⟩) hf ((other e (Ne.symm hne)).trans he) hd (Array.getElem?_eq_some_iff.mp h1).1 fun h2 T g1 g2 g3 g4 => h h2 T ⟨fun b o q hb hbad => ?_, fun b o q hb hbad => ?_⟩ ?_ g3 g4
  · have n1 : b ≠ T0 := fun z => hbad (by simp [z])
    exact g1.keep b o ((other b n1).trans q) hb (fun z => hbad (by simp at z; simp [z]))
  · have n1 : b ≠ T0 := fun z => hbad (by simp [z])
    exact g1.slot b o ((other b n1).trans q) hb (fun z => hbad (by simp at z; simp [z]))
  · have n1 : T ≠ T0 := fun z => by
      rw [z, Heap.get?_update_self _ hT (Obj.isFreed_of_fields (Obj.data_mapFields hdT _))] at g2
      cases g2
    rw [← other T n1]; exact g2
end
theorem ObjOk.there {P : Program} {w : World} {H : Hp} {h : Heap} {a : Addr} {o : HO} (x : ObjOk P w H h a o) : ∃ ob, h.get? a = some ob := by
  cases o with
  | lst xs => obtain ⟨_, _, _, _, e⟩ := x; exact ⟨_, e⟩
  | tup xs => obtain ⟨_, _, _, ob, e, _⟩ := x; exact ⟨_, e⟩
  | dK kvs => obtain ⟨_, _, _, _, o, _, _, e, _⟩ := x; exact ⟨_, e⟩
  | dT kvs => obtain ⟨_, _, _, _, o, _, _, e, _⟩ := x; exact ⟨_, e⟩
  | set S n => obtain ⟨o, _, _, _, e, _⟩ := x; exact ⟨_, e⟩
  | ins C dx fs => obtain ⟨_, _, _, e, _⟩ := x; exact ⟨_, e⟩
  | own y => obtain ⟨_, e⟩ := x; exact ⟨_, e⟩
  | xd fs => obtain ⟨_, ⟨_, _, _, e, _⟩, _⟩ := x; exact ⟨_, e⟩
  | rng lo hi => obtain ⟨_, _, _, e⟩ := x; exact ⟨_, e⟩
  | frz ob u => obtain ⟨e, _⟩ := x; exact ⟨_, e⟩
  | tbl ps => exact ⟨_, show h.get? a = some _ from x⟩
  | met f y => exact ⟨_, show h.get? a = some _ from x⟩
  | ext φ => obtain ⟨_, ⟨_, e⟩, _⟩ := x; exact ⟨_, e⟩
theorem HOk.none_of {P : Program} {w : World} {H : Hp} {h : Heap} {a : Addr} (x : HOk P w H h) (e : h.get? a = none) : H a = none := by
  cases q : H a with
  | none => rfl
  | some u =>
    obtain ⟨ob, z⟩ := (x a u q).there
    rw [e] at z; cases z
/-- behind a change that touches nothing tracked and nothing that was known at h0 -/
theorem HOk.chg {P : Program} {w : World} {H : Hp} {h h' : Heap} {fr bad : List Addr} (x : HOk P w H h) (g : Chg fr bad h h') (hfr : ∀ b ∈ fr, H b = none) (hbad : ∀ b ∈ bad, H b = none) : HOk P w H h' := fun a o e => by
  refine (x a o e).stay (fun b u hb q => ?_) (fun _ q => q) fun _ _ q => q
  have hs : ∃ ob, H b = some ob := by
    rcases hb with z | z
    · exact ⟨o, by rw [z]; exact e⟩
    · exact ⟨_, z⟩
  obtain ⟨ob, hs⟩ := hs
  exact g.keep b u q (fun z => by rw [hfr b z] at hs; cases hs) (fun z => by rw [hbad b z] at hs; cases hs)
theorem Un.chg {fs fr bad : List Addr} {H0 H : Hp} {h0 h h' : Heap} (u : Un fs [] H0 H h0 h) (g : Chg fr bad h h') (hfr : ∀ b ∈ fr, H b = none) (hbad : ∀ b ∈ bad, h0.get? b = none) (hin : ∀ b ∈ fr, b ∈ fs ∨ h0.get? b = none) : Un fs [] H0 H h0 h' where
  keep := fun b o q n hf hx => by
    have q2 := u.keep b o q n hf hx
    refine g.keep b o q2 (fun z => ?_) (fun z => by rw [hbad b z] at q; cases q)
    rcases hin b z with y | y
    · exact hf y
    · rw [y] at q; cases q
  slot := fun b o q n hf hx => by
    obtain ⟨sl, q2⟩ := u.slot b o q n hf hx
    have nb : b ∉ bad := fun z => by rw [hbad b z] at q; cases q
    by_cases z : b ∈ fr
    · obtain ⟨sl2, q3⟩ := g.slot b _ q2 z nb
      exact ⟨sl2, q3⟩
    · exact ⟨sl, g.keep b _ q2 z nb⟩
  free := u.free
  there := fun b o q hx => by
    obtain ⟨o2, q2⟩ := u.there b o q hx
    have nb : b ∉ bad := fun z => by rw [hbad b z] at q; cases q
    by_cases z : b ∈ fr
    · obtain ⟨sl2, q3⟩ := g.slot b _ q2 z nb
      exact ⟨_, q3⟩
    · exact ⟨_, g.keep b _ q2 z nb⟩
  tups := u.tups
  frzs := u.frzs
  tbls := u.tbls
/-- how the exception lies behind a call -/
def CX1 (P : Program) (w : World) (C : Addr) : CXT := fun outer H s E e s' => ∃ a H', e = .ref a ∧ s'.os = s.os ∧ AllBare s'.gens ∧ Un (frs outer) [] H H' s.heap s'.heap ∧ HOk P w H' s'.heap ∧ Fly s.heap s'.heap H' a C ∧ E (.ref C) none H'
section
variable {P : Program} {w : World} {K : PySem.W.Frag} {mg : Str → Option Value} {base : Heap} {N : List Str} {qual : Str} {scope : Scope} {f C : Addr} {cd : Value} {A : Around} {outer : List Env} {s0 : Shared} {H0 : Hp} {E : XK}
theorem frs_own (b : Addr) (hb : b ∈ frs (cxOf (CX1 P w C) P w K mg base N qual scope f cd A outer s0 H0 E).stack) : b ∈ frs outer ∨ b = s0.heap.objs.size := by
  have : b ∈ frs (envOfC qual scope s0.heap.objs.size f cd :: outer) := hb
  unfold frs at this
  rw [List.filterMap_cons] at this
  rcases List.mem_cons.mp this with z | z
  · exact .inr z
  · exact .inl z
/-- behind the frame's end -/
theorem leave1 {pins : List (Addr × Obj)} {σ : St} {H : Hp} {s : Shared} {h' : Heap} {a T : Addr} {bad : List Addr} (J : Inv (cxOf (CX1 P w C) P w K mg base N qual scope f cd A outer s0 H0 E) pins σ H s) (g : Chg (frs (cxOf (CX1 P w C) P w K mg base N qual scope f cd A outer s0 H0 E).stack) bad s.heap h') (hbad : ∀ b ∈ bad, s0.heap.get? b = none ∧ H b = none)
    (ha : s0.heap.get? a = none) (hoff : H a = none) (hT : s.heap.get? T = none) (hTa : T ≠ a) (hx : ∃ oe2 vs2 oT ts, h'.get? a = some oe2 ∧ oe2.cls = .ref C ∧ oe2.data = .fields vs2 ∧ vs2[1]? = some (.ref T) ∧ h'.get? T = some oT ∧ oT.data = .fields ts ∧ ts[3]? = some .none) (hE : E (.ref C) none H) :
    CX1 P w C outer H0 s0 E (.ref a) { s with heap := h' } := by
  obtain ⟨oe2, vs2, oT, ts, x1, x2, x3, x4, x5, x6, x7⟩ := hx
  have hT0 : s0.heap.get? T = none := by
    cases q : s0.heap.get? T with
    | none => rfl
    | some o =>
      obtain ⟨o2, q2⟩ := J.base.there T o q (by show T ∉ []; simp)
      rw [hT] at q2; cases q2
  refine ⟨a, H, rfl, J.os, J.bare, ?_, J.hok.chg g J.stkFree (fun b hb => (hbad b hb).2), ⟨⟨oe2, vs2, T, oT, ts, x1, x2, x3, x4, hTa, x5, x6, x7, hT0, J.hok.none_of hT⟩, ha, hoff⟩, hE⟩
  have u : Un (frs outer) [] H0 H s0.heap s.heap := J.base
  refine u.chg g J.stkFree (fun b hb => (hbad b hb).1) (fun b hb => ?_)
  rcases frs_own (P := P) (w := w) (K := K) (mg := mg) (base := base) (N := N) (E := E) (H0 := H0) (A := A) (C := C) b hb with z | z
  · exact .inl z
  · exact .inr (by rw [z]; exact Heap.get?_none_of_le (Nat.le_refl _))
/-- an exception of a callee passes this def -/
theorem pass1 : Passes (CX1 P w C) (cxOf (CX1 P w C) P w K mg base N qual scope f cd A outer s0 H0 E) E := fun pins σ H s e s' I hc => by
  obtain ⟨a, H', rfl, hos, hbare, un, hok, fly, hE⟩ := hc
  have J : Inv (cxOf (CX1 P w C) P w K mg base N qual scope f cd A outer s0 H0 E) pins σ H' s' := I.call' (ch := []) hos un hok hbare (fun b z => absurd z (by simp))
  obtain ⟨oe, vs, T, oT, ts, x1, x2, x3, x4, x5, x6, x7, x8, x9, x10⟩ := fly.ex
  have old : ∀ b, s.heap.get? b = none → s0.heap.get? b = none := fun b hb => by
    cases q : s0.heap.get? b with
    | none => rfl
    | some o =>
      obtain ⟨o2, q2⟩ := I.base.there b o q (by show b ∉ []; simp)
      rw [hb] at q2; cases q2
  show wpAny (model P w) (cxOf (CX1 P w C) P w K mg base N qual scope f cd A outer s0 H0 E).A (leaving (cxOf (CX1 P w C) P w K mg base N qual scope f cd A outer s0 H0 E).env (.ref a)) _ _ s'
  unfold leaving
  refine wpAny_bind (cf_note_next (base := base) J.ok.frames J.stack rfl x1 x3 x4 x5 x6 x7 x8 fun h2 T2 g1 g2 g3 g4 => ?_)
  obtain ⟨oe2, vs2, oT2, ts2, y1, y2, y3, y4, y5, y6, y7⟩ := g4
  refine leave1 J g1 (fun b hb => ?_) (old a fly.new) fly.off g2 g3 ⟨oe2, vs2, oT2, ts2, y1, y2.trans x2, y3, y4, y5, y6, y7⟩ hE
  · rcases (by simpa using hb : b = a ∨ b = T) with z | z
    · rw [z]; exact ⟨old a fly.new, fly.off⟩
    · rw [z]; exact ⟨old T x9, x10⟩
/-- a new exception leaves this def -/
theorem raise1 {pins : List (Addr × Obj)} {σ : St} {H : Hp} {s : Shared} {h' : Heap} {e : Addr} (I : Inv (cxOf (CX1 P w C) P w K mg base N qual scope f cd A outer s0 H0 E) pins σ H s) (hm : Heap.MadeExcOf s.heap h' e (.ref C) []) (hE : E (.ref C) none H) : (cxOf (CX1 P w C) P w K mg base N qual scope f cd A outer s0 H0 E).xe (.ref e) { s with heap := h' } := by
  have J : Inv (cxOf (CX1 P w C) P w K mg base N qual scope f cd A outer s0 H0 E) pins σ H { s with heap := h', toks := s.toks } := I.kept (t' := s.toks) hm.keeps
  obtain ⟨t, ht, _, _⟩ := hm.there
  have hs0 : s0.heap.get? e = none := by
    cases q : s0.heap.get? e with
    | none => rfl
    | some o =>
      obtain ⟨o2, q2⟩ := I.base.there e o q (by show e ∉ []; simp)
      rw [hm.new] at q2; cases q2
  have hoff := I.hok.none_of hm.new
  show wpAny (model P w) (cxOf (CX1 P w C) P w K mg base N qual scope f cd A outer s0 H0 E).A (leaving (cxOf (CX1 P w C) P w K mg base N qual scope f cd A outer s0 H0 E).env (.ref e)) _ _ _
  unfold leaving
  refine wpAny_bind (cf_note_first (base := base) J.ok.frames J.stack rfl ht rfl rfl fun h2 T2 g1 g2 g3 g4 => ?_)
  obtain ⟨oe2, vs2, oT2, ts2, y1, y2, y3, y4, y5, y6, y7⟩ := g4
  refine leave1 J g1 (fun b hb => ?_) hs0 hoff g2 g3 ⟨oe2, vs2, oT2, ts2, y1, y2, y3, y4, y5, y6, y7⟩ hE
  rw [show b = e by simpa using hb]
  exact ⟨hs0, hoff⟩
/-- raise x() -/
def tRaise (E : XK) (C : Addr) : TS := fun _ _ H => E (.ref C) none H
theorem ps_raise {x : Str} {np cpos pos : Pos} (hg : Gl (cxOf (CX1 P w C) P w K mg base N qual scope f cd A outer s0 H0 E) x) (hm : mg x = some (.ref C)) (hC : ExcC K C) (hdb : (x == ("__debug__" : Str)) = false := by decide) : PS (cxOf (CX1 P w C) P w K mg base N qual scope f cd A outer s0 H0 E) (.Raise (some (.Call (.Name x np) [] [] cpos)) none pos) (tRaise E C) := by
  intro pins s σ H D I h
  obtain ⟨bm, N2, nm, qn, bs, hdct, sn, sub, ab, col, dd, k0, k1, k2, k3, k5, mN, hCo, hN, hni, T⟩ := exc_obj I.kIn hC
  refine wpAny_Raise_call_subU (C := C) (nm := nm) (q := qn) (N := N2) (bs := bs) (bm := bm) (hdct := hdct) (sn := sn) (sub := sub) (ab := ab) (col := col) (dd := dd) (k0 := k0) (k1 := k1) (k2 := k2) (k3 := k3) (k5 := k5)
    PySem.F.excBase_Exception PySem.F.excBase_Exception.hasB PySem.F.excBase_Exception (mN := mN) (T.hasType PySem.F.excBase_Exception.hasBase) (I.ok.hd rfl) rfl hni (ld_glob I hg hm ⟨rfl, ?_⟩ hdb)
  exact evalArgs_empty ⟨rfl, Nat.zero_le _, hCo, hN, T, fun h' e hmade => raise1 I hmade h⟩
end
/-- a def whose exception may leave -/
theorem Fun.okX {P : Program} {w : World} {K : PySem.W.Frag} {mg : Str → Option Value} {base : Heap} {CX : CXT} {x qual : Str} {st : Stmt} {f : Addr} {fd : FuncData} {N ps : List Str} {k : Nat} {sp : Sp} (F : Fun K x qual st f fd) (S : FnScope N ps (defScope st)) (len : ∀ vs H Q E, sp vs H Q E → vs.length = ps.length)
    (hbody : ∀ (cdv : Value) (A : Around) (outer : List Env) (s : Shared) (H : Hp) (vs : List V) (Q : VK) (E : XK), Room k (A.deeper (envOfC qual (defScope st) s.heap.objs.size f cdv)) → sp vs H Q E →
      ∃ t, PSs (cxOf CX P w K mg base N qual (defScope st) f cdv A outer s H E) (defBody st) t ∧ t { nx := fun _ H' => Q .non H', rt := Q } (start N vs) H) : FnOk P w K mg base CX (k + 1) f fd ps sp := by
  obtain ⟨oc, od, kV, doc, pm, an, cdv, ct, osl, rfl, lk, hcd⟩ := F.ex
  exact fn_of lk hcd S len fun A outer s H vs Q E hr hsp => hbody cdv A outer s H vs Q E hr hsp
/-- try: return e, except x: a suite; what is raised is of the class at C -/
def tTryRet (te : XK → TE) (th : TS) : TS := fun D σ H => te (fun _ _ H' => th D (σ.map fun _ => none) H') σ H D.rt
theorem ps_tryRet {X : Cx} {C : Addr} {x : Str} {e : Expr} {te : XK → TE} {th : TS} {b0 : Stmt} {suite : List Stmt} {p1 p2 p3 pos : Pos} (hg : Gl X x) (hm : X.mg x = some (.ref C)) (hC : ExcC X.K C)
    (he : ∀ (xe' : Value → Shared → Prop) (pn' : List (Addr × Obj)) (E' : XK), Passes (CX1 X.prog X.w C) { X with xe := xe', pn := pn' } E' → PE { X with xe := xe', pn := pn' } e (te E'))
    (hh : ∀ (mk : Option Value) (xe' : Value → Shared → Prop), PSs { X with A := X.A.mark mk, calm := false, xe := xe' } (b0 :: suite) th)
    (hst : X.stack = X.env :: X.outer := by rfl) (hfr : X.env.frame = some X.env.locals := by rfl) (hdb : (x == ("__debug__" : Str)) = false := by decide) :
    PS X (.Try [.Return (some e) p1] [.ExceptHandler (some (.Name x p2)) none (b0 :: suite) p3] [] [] pos) (tTryRet te th) := by
  intro pins s σ H D I h
  refine wpAny_Try_except ?_
  have I1 : Inv { X with xe := fun ev s1 => wpAny (model X.prog X.w) X.A (noteFrame ev X.env) (fun _ s2 => wpAny (model X.prog X.w) X.A (setFlight ev none) (fun _ s3 => wpAny (model X.prog X.w) X.A (handleBy ev X.env [.ExceptHandler (some (.Name x p2)) none (b0 :: suite) p3]) (SP X pins D) X.xe s3) X.xe s2) X.xe s1, pn := X.pn ++ pins } [] σ H s :=
    ⟨⟨I.ok.mod, I.ok.kind, I.ok.glob, I.ok.blt, I.ok.above, I.ok.inj, I.ok.has, I.ok.cab, I.ok.hd, I.ok.frames, I.ok.stk, I.ok.exf, I.ok.bs, I.ok.bsz, I.ok.noex, I.ok.exfs, I.ok.funs, I.ok.frf⟩, I.os, I.bare, I.base, I.loc, I.cell, I.free, I.freeC, fun p hp => I.pin p (by simpa using hp), I.hok, I.len⟩
  have back : ∀ {xe' : Value → Shared → Prop} {σ' : St} {H' : Hp} {s' : Shared}, Inv { X with xe := xe', pn := X.pn ++ pins } [] σ' H' s' → Inv X pins σ' H' s' := fun {xe' σ' H' s'} J =>
    ⟨I.ok, J.os, J.bare, J.base, J.loc, J.cell, J.free, J.freeC, fun p hp => J.pin p (by simpa using hp), J.hok, J.len⟩
  refine wpAny_mono ((pss_one (ps_ret (he _ (X.pn ++ pins) (fun _ _ H' => th D (σ.map fun _ => none) H') ?_))) [] s σ H { nx := fun _ _ => False, rt := D.rt } I1 h) (fun fl s1 hf => ?_) (fun _ _ z => z)
  · intro pins' σ' H1 s1 ev s' J hc
    obtain ⟨a, H', rfl, hos, hbare, un, hok, fly, hth⟩ := hc
    have J1 := J.call' (ch := []) hos un hok hbare (fun b z => absurd z (by simp))
    obtain ⟨oe, vs, T, oT, ts, x1, x2, x3, x4, x5, x6, x7, x8, x9, x10⟩ := fly.ex
    have hfree := J1.stkFree
    have hstack : s'.heap.FunFrames X.base (X.env :: X.outer) := by have := J1.stack; rw [show ({ X with xe := _, pn := X.pn ++ pins } : Cx).stack = X.stack from rfl, hst] at this; exact this
    have hframes : X.A.frames = some (X.env :: X.outer) := by rw [← hst]; exact I.ok.frames
    have hfree2 : ∀ b ∈ frs (X.env :: X.outer), H' b = none := fun b hb => hfree b (by show b ∈ frs X.stack; rw [hst]; exact hb)
    refine cf_note_next (base := X.base) hframes hstack hfr x1 x3 x4 x5 x6 x7 x8 fun h2 T2 g1 g2 g3 g4 => ?_
    obtain ⟨oe2, vs2, oT2, ts2, y1, y2, y3, y4, y5, y6, y7⟩ := g4
    have oldT2 : s1.heap.get? T2 = none := by
      cases q : s1.heap.get? T2 with
      | none => rfl
      | some o =>
        obtain ⟨o2, q2⟩ := un.there T2 o q (by simp)
        rw [g2] at q2; cases q2
    have offT2 : H' T2 = none := hok.none_of g2
    have bad1 : ∀ b ∈ [a, T], s1.heap.get? b = none ∧ H' b = none := fun b hb => by
      rcases (by simpa using hb : b = a ∨ b = T) with z | z
      · rw [z]; exact ⟨fly.new, fly.off⟩
      · rw [z]; exact ⟨x9, x10⟩
    have un2 : Un (frs X.stack) [] H1 H' s1.heap h2 := un.chg g1 hfree2 (fun b hb => (bad1 b hb).1) (fun b hb => .inl (by show b ∈ frs X.stack; rw [hst]; exact hb))
    have hok2 : HOk X.prog X.w H' h2 := hok.chg g1 hfree2 (fun b hb => (bad1 b hb).2)
    have J2 := J.call' (s' := { s' with heap := h2 }) (ch := []) hos un2 hok2 hbare (fun b z => absurd z (by simp))
    have toX2 : ∀ {mk : Option Value} {xe1 xe2 : Value → Shared → Prop} {s4 : Shared}, Inv { X with xe := xe1, pn := X.pn ++ pins } pins' σ' H' s4 → Inv { X with A := X.A.mark mk, calm := false, xe := xe2 } pins (σ.map fun _ => none) H' s4 := fun {mk xe1 xe2 s4} G => by
      refine ⟨⟨I.ok.mod, I.ok.kind, I.ok.glob, I.ok.blt, I.ok.above, I.ok.inj, I.ok.has, I.ok.cab, (fun z => Bool.noConfusion (show false = true from z)), I.ok.frames, I.ok.stk, I.ok.exf, I.ok.bs, I.ok.bsz, I.ok.noex, I.ok.exfs, I.ok.funs, I.ok.frf⟩, G.os, G.bare, G.base, ?_, G.cell, G.free, G.freeC, fun p hp => G.pin p (List.mem_append_left _ hp), G.hok, by rw [List.length_map]; exact I.len⟩
      obtain ⟨m, hn, _⟩ := G.loc
      refine ⟨m, hn, fun i y v _ hv => ?_⟩
      rw [List.getElem?_map] at hv
      cases q : σ[i]? with
      | none => rw [q] at hv; cases hv
      | some z => rw [q] at hv; cases hv
    refine wpAny_handleBy_cons (codeAny_handlers_test (ld_glob (X := { X with A := X.A.mark (some (.ref a)), calm := false, xe := X.xe }) (toX2 J2) hg hm ?_ hdb)) (by intro q; cases q)
    obtain ⟨bm, N2, nm, qn, bs, hdct, sn, sub, ab, col, dd, k0, k1, k2, k3, k5, mN, hCo, hN, hni, TL⟩ := exc_obj J2.kIn hC
    refine wpAny_excMatches_sub_self (h := h2) hCo y1 (y2.trans x2) (TL.hasType PySem.F.excBase_Exception.hasBase) (codeAny_handlers_suite ?_)
    have hsz3 : 3 < ts2.size := (Array.getElem?_eq_some_iff.mp y7).1
    refine wpAny_setFlight_none y1 y3 y4 y5 y6 hsz3 ?_
    have g5 : Chg (frs (X.env :: X.outer)) [T2] h2 (h2.update T2 (Obj.mapFields (·.setIfInBounds 3 .none))) :=
      ⟨fun b o q _ hb => (Heap.get?_update_other _ _ (fun z => hb (by simp [z]))).trans q, fun b o q _ hb => ⟨o.slots, (Heap.get?_update_other _ _ (fun z => hb (by simp [z]))).trans q⟩⟩
    have un3 := un2.chg g5 hfree2 (fun b hb => by rw [show b = T2 by simpa using hb]; exact oldT2) (fun b hb => .inl (by show b ∈ frs X.stack; rw [hst]; exact hb))
    have hok3 := hok2.chg g5 hfree2 (fun b hb => by rw [show b = T2 by simpa using hb]; exact offT2)
    have J3 := J.call' (s' := { s' with heap := h2.update T2 (Obj.mapFields (·.setIfInBounds 3 .none)) }) (ch := []) hos un3 hok3 hbare (fun b z => absurd z (by simp))
    refine wpAny_mono (hh (some (.ref a)) _ pins _ _ H' D (toX2 J3) hth) (fun fl s5 hf => ?_) (fun _ _ z => z)
    have con : ∀ {σ' : St} {H5 : Hp} {xe2 : Value → Shared → Prop}, Inv { X with A := X.A.mark (some (.ref a)), calm := false, xe := xe2 } pins σ' H5 s5 → Inv X pins σ' H5 s5 := fun {σ' H5 xe2} G => ⟨I.ok, G.os, G.bare, G.base, G.loc, G.cell, G.free, G.freeC, G.pin, G.hok, G.len⟩
    cases fl with
    | next => obtain ⟨σ5, H5, G, q⟩ := hf; exact ⟨σ5, H5, con G, q⟩
    | brk => obtain ⟨σ5, H5, G, q⟩ := hf; exact ⟨σ5, H5, con G, q⟩
    | cont => obtain ⟨σ5, H5, G, q⟩ := hf; exact ⟨σ5, H5, con G, q⟩
    | ret u => obtain ⟨v, σ5, H5, G, r, q⟩ := hf; exact ⟨v, σ5, H5, con G, r, q⟩
  · cases fl with
    | next => obtain ⟨_, _, _, q⟩ := hf; exact q.elim
    | brk => obtain ⟨_, _, _, q⟩ := hf; exact q.elim
    | cont => obtain ⟨_, _, _, q⟩ := hf; exact q.elim
    | ret u => obtain ⟨v, σ5, H5, G, r, q⟩ := hf; exact ⟨v, σ5, H5, back G, r, q⟩
end L2
end
section
set_option Elab.async false
/-! Texts of words: the program's reading of one, against the specification's. -/
namespace Cf
open ClLat ClFill
def ltr (b : Int) : Nat := b.toNat - 65
def mayW (b : Int) (whole letters : Nat) : Bool := if whole = 200 then false else if b = 10 then decide (2 ≤ letters) else isLetI b && decide (letters < 9)
def faultWGo : List Int → Nat → Nat → Nat → Option Nat
  | [], p, _, letters => if 0 < letters then some p else none
  | b :: t, p, whole, letters => if mayW b whole letters = true then (if b = 10 then faultWGo t (p + 1) (whole + 1) 0 else faultWGo t (p + 1) whole (letters + 1)) else some p
def faultW (t : List Int) : Option Nat := faultWGo t 0 0 0
theorem isUpper_nat : ∀ n, n < 256 → isUpper (UInt8.ofNat n) = isLetI (n : Int) := by decide +kernel
theorem toNat_nat : ∀ n, n < 256 → (UInt8.ofNat n).toNat = n := by decide +kernel
theorem isUpper_eq {b : Int} (h : 0 ≤ b ∧ b ≤ 255) : isUpper (UInt8.ofNat b.toNat) = isLetI b := by
  obtain ⟨h1, h2⟩ := byte_nat h
  have := isUpper_nat b.toNat h1
  rw [h2] at this
  exact this
theorem toNat_eq {b : Int} (h : 0 ≤ b ∧ b ≤ 255) : (UInt8.ofNat b.toNat).toNat - 65 = ltr b := by
  rw [toNat_nat b.toNat (byte_nat h).1]
  rfl
theorem let_not10 {b : Int} (h : isLetI b = true) : b ≠ 10 := by
  intro e; subst e; exact absurd h (by decide)
theorem word_eq : ∀ (t : List Int) (p whole letters : Nat), AreBytes t → whole ≠ 200 → letters ≤ 9 → (0 < letters ∨ t ≠ []) →
    match wordIn (9 - letters) (2 - letters) p (toB t) with
    | .error q => faultWGo t p whole letters = some q
    | .ok y => ∃ (rb rest : List Int), t = rb ++ 10 :: rest ∧ y = (rb.map ltr, p + rb.length + 1, toB rest) ∧ 2 ≤ letters + rb.length ∧ letters + rb.length ≤ 9 ∧ (∀ b ∈ rb, isLetI b = true) ∧
        faultWGo t p whole letters = faultWGo rest (p + rb.length + 1) (whole + 1) 0
  | [], p, whole, letters, _, _, _, hne => by
    have e : wordIn (9 - letters) (2 - letters) p (toB []) = .error p := by
      cases 9 - letters <;> rfl
    rw [e]
    show (if 0 < letters then some p else none) = some p
    rw [if_pos]
    rcases hne with h | h
    · exact h
    · exact absurd rfl h
  | b :: t, p, whole, letters, hb, hw, hl, _ => by
    have hb0 := hb b List.mem_cons_self
    have hbt : AreBytes t := fun x hx => hb x (List.mem_cons_of_mem _ hx)
    by_cases h10 : b = 10
    · have e10 : UInt8.ofNat b.toNat = 10 := (is10_eq hb0).mpr h10
      by_cases hm : 2 ≤ letters
      · have e : wordIn (9 - letters) (2 - letters) p (toB (b :: t)) = .ok ([], p + 1, toB t) := by
          show wordIn (9 - letters) (2 - letters) p (UInt8.ofNat b.toNat :: toB t) = _
          have em : 2 - letters = 0 := by omega
          rw [em]
          cases 9 - letters with
          | zero => simp [wordIn, e10]
          | succ n => simp [wordIn, e10]
        rw [e]
        refine ⟨[], t, by rw [h10]; rfl, rfl, by simpa using hm, by simpa using hl, by simp, ?_⟩
        show (if mayW b whole letters = true then _ else _) = _
        have hmay : mayW b whole letters = true := by unfold mayW; rw [if_neg hw, if_pos h10]; simpa using hm
        rw [if_pos hmay, if_pos h10]
        rfl
      · have e : wordIn (9 - letters) (2 - letters) p (toB (b :: t)) = .error p := by
          show wordIn (9 - letters) (2 - letters) p (UInt8.ofNat b.toNat :: toB t) = _
          obtain ⟨m, em⟩ : ∃ m, 2 - letters = m + 1 := ⟨2 - letters - 1, by omega⟩
          obtain ⟨n, en⟩ : ∃ n, 9 - letters = n + 1 := ⟨9 - letters - 1, by omega⟩
          have hc0 : isUpper 10 = false := by decide
          rw [em, en]
          simp [wordIn, e10, hc0]
        rw [e]
        show (if mayW b whole letters = true then _ else _) = _
        have hmay : ¬ mayW b whole letters = true := by unfold mayW; rw [if_neg hw, if_pos h10]; simpa using hm
        rw [if_neg hmay]
    · have e10 : ¬ UInt8.ofNat b.toNat = 10 := fun e => h10 ((is10_eq hb0).mp e)
      have hco := isUpper_eq hb0
      by_cases hcell : isLetI b = true
      · rw [hcell] at hco
        by_cases hlt : letters < 9
        · obtain ⟨n, en⟩ : ∃ n, 9 - letters = n + 1 := ⟨9 - letters - 1, by omega⟩
          have en' : n = 9 - (letters + 1) := by omega
          have em' : 2 - letters - 1 = 2 - (letters + 1) := by omega
          have ih := word_eq t (p + 1) whole (letters + 1) hbt hw (by omega) (.inl (by omega))
          have hmay : mayW b whole letters = true := by
            unfold mayW; rw [if_neg hw, if_neg h10, hcell]; simpa using hlt
          have ef : faultWGo (b :: t) p whole letters = faultWGo t (p + 1) whole (letters + 1) := by
            show (if mayW b whole letters = true then _ else _) = _
            rw [if_pos hmay, if_neg h10]
          have e : wordIn (9 - letters) (2 - letters) p (toB (b :: t)) = (match wordIn (9 - (letters + 1)) (2 - (letters + 1)) (p + 1) (toB t) with
              | .error q => .error q
              | .ok y => .ok (ltr b :: y.1, y.2)) := by
            show wordIn (9 - letters) (2 - letters) p (UInt8.ofNat b.toNat :: toB t) = _
            rw [en, ← en', ← em']
            simp only [wordIn]
            rw [if_neg (fun h => e10 h.1), if_pos hco, toNat_eq hb0]
            rfl
          rw [e, ef]
          cases hL : wordIn (9 - (letters + 1)) (2 - (letters + 1)) (p + 1) (toB t) with
          | error q =>
            rw [hL] at ih
            exact ih
          | ok y =>
            rw [hL] at ih
            obtain ⟨rb, rest, e1, e2, h1, h2, h3, h4⟩ := ih
            refine ⟨b :: rb, rest, by rw [e1]; rfl, ?_, ?_, ?_, ?_, ?_⟩
            · rw [e2]
              simp only [List.map_cons, List.length_cons]
              congr 2
              omega
            · simp only [List.length_cons]; omega
            · simp only [List.length_cons]; omega
            · intro x hx
              rcases List.mem_cons.mp hx with rfl | hx
              · exact hcell
              · exact h3 x hx
            · rw [h4]
              simp only [List.length_cons]
              congr 1; omega
        · have e : wordIn (9 - letters) (2 - letters) p (toB (b :: t)) = .error p := by
            show wordIn (9 - letters) (2 - letters) p (UInt8.ofNat b.toNat :: toB t) = _
            have en : 9 - letters = 0 := by omega
            rw [en]
            simp only [wordIn]
            rw [if_neg e10]
          rw [e]
          show (if mayW b whole letters = true then _ else _) = _
          have hmay : ¬ mayW b whole letters = true := by unfold mayW; rw [if_neg hw, if_neg h10, hcell]; simpa using hlt
          rw [if_neg hmay]
      · have hf : isLetI b = false := by cases h : isLetI b <;> simp_all
        rw [hf] at hco
        have e : wordIn (9 - letters) (2 - letters) p (toB (b :: t)) = .error p := by
          show wordIn (9 - letters) (2 - letters) p (UInt8.ofNat b.toNat :: toB t) = _
          cases 9 - letters with
          | zero => simp only [wordIn]; rw [if_neg e10]
          | succ n => simp only [wordIn]; rw [if_neg (fun h => e10 h.1), hco, if_neg (by simp)]
        rw [e]
        show (if mayW b whole letters = true then _ else _) = _
        have hmay : ¬ mayW b whole letters = true := by
          unfold mayW; rw [if_neg hw, if_neg h10]
          rw [hf]; simp
        rw [if_neg hmay]
theorem rowsGo_word : ∀ (rb rest : List Int) (rows : List (List Int)) (row : List Int), (∀ b ∈ rb, isLetI b = true) → rowsGo (rb ++ 10 :: rest) rows row = rowsGo rest (rows ++ [row ++ rb]) []
  | [], rest, rows, row, _ => by simp [rowsGo]
  | b :: rb, rest, rows, row, h => by
    have hb : b ≠ 10 := let_not10 (h b List.mem_cons_self)
    show rowsGo (b :: (rb ++ 10 :: rest)) rows row = _
    simp only [rowsGo, if_neg hb]
    rw [rowsGo_word rb rest rows (row ++ [b]) fun x hx => h x (List.mem_cons_of_mem _ hx)]
    simp
theorem words_eq : ∀ (n : Nat) (t : List Int) (p whole : Nat), AreBytes t → n + whole = 200 →
    match wordsIn n p (toB t) with
    | .error q => faultWGo t p whole 0 = some q
    | .ok l => faultWGo t p whole 0 = none ∧ l = (rowsGo t [] []).map (fun r => r.map ltr) ∧ (∀ r ∈ rowsGo t [] [], 2 ≤ r.length ∧ r.length ≤ 9 ∧ ∀ b ∈ r, isLetI b = true) ∧ (rowsGo t [] []).length ≤ n
  | 0, [], p, whole, _, h => by
    have e : wordsIn 0 p (toB []) = .ok [] := rfl
    rw [e]
    refine ⟨rfl, rfl, ?_, Nat.le_refl _⟩
    intro r hr
    cases hr
  | 0, b :: t, p, whole, _, h => by
    have : whole = 200 := by omega
    subst this
    show faultWGo (b :: t) p 200 0 = some p
    rfl
  | n + 1, [], p, whole, _, h => by
    have e : wordsIn (n + 1) p (toB []) = .ok [] := rfl
    rw [e]
    refine ⟨rfl, rfl, ?_, Nat.zero_le _⟩
    intro r hr
    cases hr
  | n + 1, b :: t, p, whole, hb, h => by
    have hw : whole ≠ 200 := by omega
    have hl := word_eq (b :: t) p whole 0 hb hw (Nat.zero_le _) (.inr (by simp))
    rw [Nat.sub_zero, Nat.sub_zero] at hl
    have e : wordsIn (n + 1) p (toB (b :: t)) = (match wordIn 9 2 p (toB (b :: t)) with
        | .error q => .error q
        | .ok y => match wordsIn n y.2.1 y.2.2 with
          | .error q => .error q
          | .ok l => .ok (y.1 :: l)) := by
      show wordsIn (n + 1) p (UInt8.ofNat b.toNat :: toB t) = _
      simp only [wordsIn]
      rfl
    rw [e]
    cases hL : wordIn 9 2 p (toB (b :: t)) with
    | error q =>
      rw [hL] at hl
      exact hl
    | ok y =>
      rw [hL] at hl
      obtain ⟨rb, rest, e1, e2, h1, h2, h3, h4⟩ := hl
      have hrest : AreBytes rest := fun x hx => hb x (by rw [e1]; exact List.mem_append_right _ (List.mem_cons_of_mem _ hx))
      have ih := words_eq n rest (p + rb.length + 1) (whole + 1) hrest (by omega)
      subst e2
      rw [Nat.zero_add] at h1 h2
      have er : rowsGo (b :: t) [] [] = rb :: rowsGo rest [] [] := by
        rw [e1, rowsGo_word rb rest [] [] h3, rowsGo_acc]; rfl
      simp only
      cases hM : wordsIn n (p + rb.length + 1) (toB rest) with
      | error q =>
        rw [hM] at ih
        show faultWGo (b :: t) p whole 0 = some q
        rw [h4]
        exact ih
      | ok l =>
        rw [hM] at ih
        obtain ⟨i1, i2, i3, i4⟩ := ih
        refine ⟨?_, ?_, ?_, ?_⟩
        · rw [h4]; exact i1
        · rw [er, i2]; rfl
        · intro r hr
          rw [er] at hr
          rcases List.mem_cons.mp hr with rfl | hr
          · exact ⟨h1, h2, h3⟩
          · exact i3 r hr
        · rw [er, List.length_cons]; omega
/-- rows that are words -/
structure AreWords (R : List (List Int)) : Prop where
  len : R.length ≤ 200
  each : ∀ r ∈ R, 2 ≤ r.length ∧ r.length ≤ 9 ∧ ∀ b ∈ r, isLetI b = true
def wordsOf (R : List (List Int)) : List Letters := R.map fun r => r.map ltr
theorem words_err {ns : List Int} (h : AreBytes ns) {p : Nat} (e : faultW ns = some p) : readWords (toB ns) = .error p := by
  have q := words_eq 200 ns 0 0 h rfl
  unfold readWords WORDS
  cases r : wordsIn 200 0 (toB ns) with
  | error z =>
    rw [r] at q
    have q : faultW ns = some z := q
    rw [e] at q
    rw [Option.some.inj q]
  | ok g =>
    rw [r] at q
    have q : faultW ns = none ∧ _ := q
    rw [e] at q
    exact absurd q.1 (by simp)
theorem words_ok {ns : List Int} (h : AreBytes ns) (e : faultW ns = none) : AreWords (rowsM ns) ∧ readWords (toB ns) = .ok (wordsOf (rowsM ns)) := by
  have q := words_eq 200 ns 0 0 h rfl
  unfold readWords WORDS
  cases r : wordsIn 200 0 (toB ns) with
  | error z =>
    rw [r] at q
    have q : faultW ns = some z := q
    rw [e] at q
    cases q
  | ok g =>
    rw [r] at q
    obtain ⟨_, h2, h3, h4⟩ := q
    exact ⟨⟨h4, h3⟩, by rw [h2]; rfl⟩
end Cf
end
section
set_option Elab.async false
/-! Judging: what is come to, what is checked, against the specification's. -/
namespace Cf
open ClLat
theorem same_iff {x y : Cell} : sameCell x y = true ↔ x = y := by
  unfold sameCell
  simp only [Bool.and_eq_true, beq_iff_eq]
  constructor
  · rintro ⟨h1, h2⟩; exact Prod.ext h1 h2
  · rintro rfl; exact ⟨rfl, rfl⟩
variable {R : List (List Int)} {w : Nat}
/-! ### cells beside one another -/
/-! ### what is come to -/
def more (g : Grid) (l : List Cell) : List Cell := g.whites.filter fun (x : Cell) => !isIn x l && (g.beside x).any fun (y : Cell) => isIn y l
/-! ### lists without doubles -/
/-! ### facing -/
/-! ### lights that have a cell -/
theorem mem_cells {l : Light} {x : Cell} : x ∈ l.cells ↔ ∃ k, k < l.length ∧ on l.dir l.at_ k = x := by
  unfold Light.cells
  rw [List.mem_map]
  simp only [List.mem_range]
theorem from_at (g : Grid) : ∀ cs : List Cell, ∀ l ∈ lightsFrom g cs, l.at_ ∈ cs ∧ (l.dir = 0 ∨ l.dir = 1) ∧ g.begins l.dir l.at_ = true ∧ l.length = g.run l.dir l.at_ := by
  intro cs l hl
  unfold lightsFrom at hl
  obtain ⟨x, hx, hl⟩ := List.mem_flatMap.mp hl
  obtain ⟨d, hd, e⟩ := List.mem_filterMap.mp hl
  split at e
  · rename_i hb
    have e := Option.some.inj e
    subst e
    have hm : x.1 ∈ cs := by
      have := List.mem_zipIdx hx
      have h3 := this.2.2
      have h4 : x.1 ∈ List.filter (fun x => g.begins 0 x || g.begins 1 x) cs := by rw [h3]; exact List.getElem_mem _
      exact (List.mem_filter.mp h4).1
    refine ⟨hm, ?_, hb, rfl⟩
    simpa using hd
  · cases e
end Cf
end
section
set_option Elab.async false
/-! Where lights cross; what cross and checked are to answer. -/
namespace Cf
open ClLat
theorem find_in {c : Cell} {bs : List Cell} (h : c ∈ bs) : ∃ j, bs.findIdx? (sameCell c) = some j ∧ bs[j]? = some c ∧ ∀ m, m < j → bs[m]? ≠ some c := by
  cases e : bs.findIdx? (sameCell c) with
  | none =>
    rw [List.findIdx?_eq_none_iff] at e
    have := e c h
    rw [same_iff.mpr rfl] at this
    cases this
  | some j =>
    obtain ⟨hj, h1, h2⟩ := List.findIdx?_eq_some_iff_getElem.mp e
    refine ⟨j, rfl, ?_, fun m hm he => ?_⟩
    · rw [List.getElem?_eq_getElem hj, ← same_iff.mp h1]
    · have h3 := h2 m hm
      obtain ⟨hl, h4⟩ := List.getElem?_eq_some_iff.mp he
      rw [h4] at h3
      exact h3 (same_iff.mpr rfl)
theorem find_out {c : Cell} {bs : List Cell} (h : c ∉ bs) : bs.findIdx? (sameCell c) = none := by
  rw [List.findIdx?_eq_none_iff]
  intro x hx
  cases e : sameCell c x with
  | false => rfl
  | true => rw [same_iff.mp e] at h; exact absurd hx h
def crossF (bs : List Cell) : Cell × Nat → Option (Nat × Nat) := fun x => (bs.findIdx? (sameCell x.1)).map fun (j : Nat) => (x.2, j)
theorem crossing_eq (a b : Light) : crossing a b = if a.dir = b.dir then none else a.cells.zipIdx.findSome? (crossF b.cells) := rfl
theorem zip_drop {α : Type} {l : List α} {i : Nat} {x : α} (h : l[i]? = some x) : l.zipIdx.drop i = (x, i) :: l.zipIdx.drop (i + 1) := by
  have hz : l.zipIdx[i]? = some (x, i) := by simp [h]
  obtain ⟨hl, e⟩ := List.getElem?_eq_some_iff.mp hz
  rw [List.drop_eq_getElem_cons hl, e]
theorem nat_of {i : Int} (h : 0 ≤ i) : FillNeutral.nat? i = some i.toNat := by
  unfold FillNeutral.nat?
  rw [if_pos h]
end Cf
end
section
set_option Elab.async false
set_option linter.all false
/-! Slots: what a light asks of its word, the program's way against the specification's. -/
namespace Cf
open ClLat ClFill
theorem getD_at {α : Type} {l : List α} {i : Nat} {x d : α} (h : l[i]? = some x) : l.getD i d = x := by rw [List.getD_eq_getElem?_getD, h]; rfl
structure SlotD where
  cells : List Cell
  lk : List (Nat × Int)
  cr : List (Nat × Nat × Nat)
def byteAt (R : List (List Int)) (c : Cell) : Int := (R.getD c.1 []).getD c.2 0
def lockF (R : List (List Int)) (x : Cell × Nat) : Option (Nat × Int) := if isLetI (byteAt R x.1) = true then some (x.2, byteAt R x.1) else none
def lockedM (R : List (List Int)) (cs : List Cell) : List (Nat × Int) := cs.zipIdx.filterMap (lockF R)
def crF (l : Light) (y : Light × Nat) : Option (Nat × Nat × Nat) := (crossing l y.1).map fun (z : Nat × Nat) => (z.1, y.2, z.2)
def crossM (ls : List Light) (l : Light) : List (Nat × Nat × Nat) := ls.zipIdx.filterMap (crF l)
def slotF (R : List (List Int)) (ls : List Light) (x : Light × Nat) : SlotD := ⟨x.1.cells, lockedM R x.1.cells, crossM (ls.take x.2) x.1⟩
def slotsM (R : List (List Int)) (ls : List Light) : List SlotD := ls.zipIdx.map (slotF R ls)
def standsM (s : SlotD) (word : List Int) : Bool := decide (word.length = s.cells.length) && s.lk.all fun y => decide (word.getD y.1 0 = y.2)
def agreesM (s : SlotD) (W : List (List Int)) (had : List Nat) (word : List Int) : Bool := s.cr.all fun y => decide (word.getD y.1 0 = (W.getD (had.getD y.2.1 0) []).getD y.2.2 0)
def wrongM (sl : List SlotD) (W : List (List Int)) (had : List Nat) (n : Nat) : Nat := match sl[had.length]? with
  | none => 0
  | some s => if W.length ≤ n then 2 else if standsM s (W.getD n []) = false then 3 else if had.contains n = true then 4 else if agreesM s W had (W.getD n []) = true then 0 else 5
/-- the words in the lights so far fit their lights -/
def Valid (sl : List SlotD) (W : List (List Int)) (had : List Nat) : Prop := ∀ (k n : Nat), had[k]? = some n → ∃ s, sl[k]? = some s ∧ n < W.length ∧ (W.getD n []).length = s.cells.length
theorem slots_len (R : List (List Int)) (ls : List Light) : (slotsM R ls).length = ls.length := by unfold slotsM; rw [List.length_map, List.length_zipIdx]
theorem slots_get (R : List (List Int)) (ls : List Light) {k : Nat} {l : Light} (h : ls[k]? = some l) : (slotsM R ls)[k]? = some (slotF R ls (l, k)) := by
  unfold slotsM
  rw [List.getElem?_map, List.getElem?_zipIdx, h]
  simp
theorem turns_len (g : Grid) (ws : List Letters) : (turnsOf g ws).length = g.lights.length := by unfold turnsOf; simp
theorem turns_get (g : Grid) (ws : List Letters) {k : Nat} {l : Light} (h : g.lights[k]? = some l) : (turnsOf g ws)[k]? = some ⟨ws.map (standsIn g l), ((g.lights.take k).zipIdx).filterMap fun (y : Light × Nat) => (crossing l y.1).map fun (z : Nat × Nat) => (y.2, z.1, z.2)⟩ := by
  unfold turnsOf
  simp only
  rw [List.getElem?_map, List.getElem?_zipIdx, h]
  simp
theorem ltr_inj {a b : Int} (ha : isLetI a = true) (hb : isLetI b = true) : (ltr a == ltr b) = decide (a = b) := by
  unfold isLetI at ha hb
  rw [Bool.and_eq_true] at ha hb
  have h1 : 65 ≤ a := of_decide_eq_true ha.1
  have h2 : 65 ≤ b := of_decide_eq_true hb.1
  unfold ltr
  by_cases e : a = b
  · subst e; simp
  · have : ¬ a.toNat - 65 = b.toNat - 65 := by omega
    simp [e, this]
variable {R : List (List Int)} {w : Nat}
theorem byte_at (hR : Rect R w) {x : Cell} (h : (gridOf R w).white x = true) : ∃ row, R[x.1]? = some row ∧ row[x.2]? = some (byteAt R x) := by
  obtain ⟨h1, h2⟩ := white_in hR h
  obtain ⟨row, b, e1, e2, hl, hb⟩ := hR.at_ h1 h2
  refine ⟨row, e1, ?_⟩
  unfold byteAt
  rw [getD_at e1, getD_at e2, e2]
theorem lock_eq (hR : Rect R w) {x : Cell} (h : (gridOf R w).white x = true) : (gridOf R w).lock x = if isLetI (byteAt R x) = true then some (ltr (byteAt R x)) else none := by
  obtain ⟨h1, h2⟩ := white_in hR h
  obtain ⟨row, b, e1, e2, hl, hb⟩ := hR.at_ h1 h2
  have e3 : byteAt R x = b := by
    unfold byteAt
    rw [getD_at e1, getD_at e2]
  rw [e3]
  have ec := cell_eq hR h1 h2 e1 e2
  have hw := isW_of hR e1 e2
  rw [← white_eq' hR, h] at hw
  have n35 : b ≠ 35 := by simpa using hw.symm
  unfold Grid.lock
  rw [show (x : Cell) = (x.1, x.2) from rfl, ec]
  unfold cellI
  rw [if_neg n35]
  by_cases e46 : b = 46
  · rw [if_pos e46, e46]
    rfl
  · rw [if_neg e46]
    have : isLetI b = true := by
      unfold isCellI at hb
      unfold isLetI
      simpa [n35, e46] using hb
    rw [if_pos this]
    rfl
theorem light_white (hR : Rect R w) {l : Light} (hl : l ∈ (gridOf R w).lights) : ∀ c ∈ l.cells, (gridOf R w).white c = true := by
  intro c hc
  obtain ⟨k, hk, rfl⟩ := mem_cells.mp hc
  obtain ⟨_, _, hb, hlen⟩ := from_at (gridOf R w) (gridOf R w).all l hl
  rw [hlen] at hk
  exact (run_white hR l.dir l.at_).2.1 k hk
theorem stands_eq (hR : Rect R w) {l : Light} (hl : l ∈ (gridOf R w).lights) {word : List Int} (hw : ∀ b ∈ word, isLetI b = true) (cr : List (Nat × Nat × Nat)) :
    standsM ⟨l.cells, lockedM R l.cells, cr⟩ word = standsIn (gridOf R w) l (word.map ltr) := by
  unfold standsM standsIn
  simp only
  rw [List.length_map]
  have hcl : l.cells.length = l.length := by unfold Light.cells; rw [List.length_map, List.length_range]
  rw [hcl]
  by_cases hlen : word.length = l.length
  · rw [decide_eq_true hlen, show (word.length == l.length) = true from by rw [beq_iff_eq]; exact hlen, Bool.true_and, Bool.true_and]
    rw [Bool.eq_iff_iff, List.all_eq_true, List.all_eq_true]
    constructor
    · intro h y hy
      obtain ⟨i, hi⟩ := List.getElem?_of_mem hy
      rw [List.zip_eq_zipWith, List.getElem?_zipWith] at hi
      cases ec : l.cells[i]? with
      | none => rw [ec] at hi; simp at hi
      | some c =>
        cases ew : (word.map ltr)[i]? with
        | none => rw [ec, ew] at hi; simp at hi
        | some z =>
          rw [ec, ew] at hi
          have e : (c, z) = y := by simpa using hi
          subst e
          have hwc := light_white hR hl c (List.mem_of_getElem? ec)
          simp only
          rw [lock_eq hR hwc]
          by_cases hlet : isLetI (byteAt R c) = true
          · rw [if_pos hlet]
            have hm : (i, byteAt R c) ∈ lockedM R l.cells := by
              unfold lockedM
              rw [List.mem_filterMap]
              refine ⟨(c, i), ?_, by unfold lockF; rw [if_pos hlet]⟩
              rw [List.mem_zipIdx_iff_getElem?]
              exact ec
            have h1 := h _ hm
            simp only at h1
            rw [List.getElem?_map] at ew
            cases ew2 : word[i]? with
            | none => rw [ew2] at ew; cases ew
            | some b =>
              rw [ew2] at ew
              have ez : ltr b = z := by simpa using ew
              rw [List.getD_eq_getElem?_getD, ew2] at h1
              have : b = byteAt R c := by simpa using h1
              simp only
              rw [← ez, this]
              simp
          · rw [if_neg hlet]
    · intro h y hy
      unfold lockedM at hy
      rw [List.mem_filterMap] at hy
      obtain ⟨⟨c, i⟩, hci, hf⟩ := hy
      rw [List.mem_zipIdx_iff_getElem?] at hci
      have ec : l.cells[i]? = some c := hci
      unfold lockF at hf
      by_cases hlet : isLetI (byteAt R c) = true
      · rw [if_pos hlet] at hf
        have e : (i, byteAt R c) = y := by simpa using hf
        subst e
        have hil : i < word.length := by
          have := (List.getElem?_eq_some_iff.mp ec).1
          omega
        have ew2 : word[i]? = some word[i] := List.getElem?_eq_getElem hil
        have hwc := light_white hR hl c (List.mem_of_getElem? ec)
        have hmem : (c, ltr word[i]) ∈ l.cells.zip (word.map ltr) := by
          refine List.mem_of_getElem? (i := i) ?_
          rw [List.zip_eq_zipWith, List.getElem?_zipWith, ec, List.getElem?_map, ew2]
          rfl
        have h1 := h _ hmem
        simp only at h1
        rw [lock_eq hR hwc, if_pos hlet] at h1
        simp only at h1
        rw [ltr_inj hlet (hw _ (List.getElem_mem hil))] at h1
        have : byteAt R c = word[i] := of_decide_eq_true h1
        simp only
        rw [List.getD_eq_getElem?_getD, ew2, this]
        simp
      · rw [if_neg hlet] at hf; cases hf
  · rw [decide_eq_false hlen, show (word.length == l.length) = false from by rw [beq_eq_false_iff_ne]; exact hlen]
    rfl
theorem cross_at {a b : Light} {z : Nat × Nat} (h : crossing a b = some z) : z.1 < a.length ∧ z.2 < b.length := by
  rw [crossing_eq] at h
  split at h
  · cases h
  · obtain ⟨y, hy, hf⟩ := List.exists_of_findSome?_eq_some h
    unfold crossF at hf
    cases e : b.cells.findIdx? (sameCell y.1) with
    | none => rw [e] at hf; cases hf
    | some j =>
      rw [e] at hf
      have ez : (y.2, j) = z := by simpa using hf
      subst ez
      rw [List.mem_zipIdx_iff_getElem?] at hy
      have h1 := (List.getElem?_eq_some_iff.mp hy).1
      obtain ⟨h2, _, _⟩ := List.findIdx?_eq_some_iff_getElem.mp e
      have ha : a.cells.length = a.length := by unfold Light.cells; rw [List.length_map, List.length_range]
      have hb : b.cells.length = b.length := by unfold Light.cells; rw [List.length_map, List.length_range]
      simp only
      omega
theorem mem_crossM {ls : List Light} {l : Light} {y : Nat × Nat × Nat} (h : y ∈ crossM ls l) : ∃ m, ls[y.2.1]? = some m ∧ crossing l m = some (y.1, y.2.2) := by
  unfold crossM at h
  rw [List.mem_filterMap] at h
  obtain ⟨⟨m, e⟩, hm, hf⟩ := h
  rw [List.mem_zipIdx_iff_getElem?] at hm
  unfold crF at hf
  cases ec : crossing l m with
  | none => rw [ec] at hf; cases hf
  | some z =>
    rw [ec] at hf
    have ey : (z.1, e, z.2) = y := by simpa using hf
    subst ey
    exact ⟨m, hm, ec⟩
theorem letter_at {W : List (List Int)} {n k : Nat} {r : List Int} {b : Int} (h1 : W[n]? = some r) (h2 : r[k]? = some b) : letterOf (wordsOf W) n k = ltr b := by
  unfold letterOf wordsOf
  have e1 : (W.map fun r => r.map ltr)[n]? = some (r.map ltr) := by rw [List.getElem?_map, h1]; rfl
  have e2 : (r.map ltr)[k]? = some (ltr b) := by rw [List.getElem?_map, h2]; rfl
  rw [getD_at e1, getD_at e2]
theorem letters_eq {W : List (List Int)} (hW : AreWords W) {n m p q : Nat} {r r2 : List Int} (h1 : W[n]? = some r) (h2 : W[m]? = some r2) (hp : p < r.length) (hq : q < r2.length) :
    (letterOf (wordsOf W) n p == letterOf (wordsOf W) m q) = decide (r.getD p 0 = r2.getD q 0) := by
  have e1 : r[p]? = some r[p] := List.getElem?_eq_getElem hp
  have e2 : r2[q]? = some r2[q] := List.getElem?_eq_getElem hq
  rw [letter_at h1 e1, letter_at h2 e2, ltr_inj ((hW.each r (List.mem_of_getElem? h1)).2.2 _ (List.getElem_mem hp)) ((hW.each r2 (List.mem_of_getElem? h2)).2.2 _ (List.getElem_mem hq))]
  rw [List.getD_eq_getElem?_getD, List.getD_eq_getElem?_getD, e1, e2]
  rfl
/-- the letters where this light crosses earlier ones -/
theorem agrees_eq (hR : Rect R w) {W : List (List Int)} (hW : AreWords W) {had : List Nat} (hv : Valid (slotsM R (gridOf R w).lights) W had) {l : Light} (hl : (gridOf R w).lights[had.length]? = some l) {n : Nat} {word : List Int} (hn : W[n]? = some word) (hlen : word.length = l.length) :
    (((((gridOf R w).lights.take had.length).zipIdx).filterMap fun (y : Light × Nat) => (crossing l y.1).map fun (z : Nat × Nat) => (y.2, z.1, z.2)).all fun (c : Nat × Nat × Nat) => letterOf (wordsOf W) n c.2.1 == letterOf (wordsOf W) (had.getD c.1 0) c.2.2) =
      agreesM (slotF R (gridOf R w).lights (l, had.length)) W had word := by
  unfold agreesM slotF
  simp only
  have e : (((gridOf R w).lights.take had.length).zipIdx.filterMap fun (y : Light × Nat) => (crossing l y.1).map fun (z : Nat × Nat) => (y.2, z.1, z.2)) = (crossM ((gridOf R w).lights.take had.length) l).map fun y => (y.2.1, y.1, y.2.2) := by
    unfold crossM
    rw [List.map_filterMap]
    congr 1
    funext y
    unfold crF
    cases crossing l y.1 <;> rfl
  rw [e, List.all_map]
  rw [Bool.eq_iff_iff, List.all_eq_true, List.all_eq_true]
  refine forall_congr' fun y => ?_
  refine imp_congr_right fun hy => ?_
  obtain ⟨m, hm, hc⟩ := mem_crossM hy
  obtain ⟨c1, c2⟩ := cross_at hc
  have hk : y.2.1 < had.length := by
    have := (List.getElem?_eq_some_iff.mp hm).1
    rw [List.length_take] at this
    omega
  have hm2 : (gridOf R w).lights[y.2.1]? = some m := by rw [List.getElem?_take, if_pos hk] at hm; exact hm
  have eh : had[y.2.1]? = some had[y.2.1] := List.getElem?_eq_getElem hk
  obtain ⟨s, hs, hlt, hsl⟩ := hv _ _ eh
  rw [slots_get R _ hm2] at hs
  have es : slotF R (gridOf R w).lights (m, y.2.1) = s := Option.some.inj hs
  have ew : W[had[y.2.1]]? = some W[had[y.2.1]] := List.getElem?_eq_getElem hlt
  rw [getD_at ew, ← es] at hsl
  have hml : m.cells.length = m.length := by unfold Light.cells; rw [List.length_map, List.length_range]
  have hsl : W[had[y.2.1]].length = m.cells.length := hsl
  simp only [Function.comp]
  rw [getD_at eh, letters_eq hW hn ew (by simp only at c1; omega) (by simp only at c2; omega), getD_at ew]
theorem stands_at (hR : Rect R w) {W : List (List Int)} (hW : AreWords W) {k : Nat} {l : Light} (hl : (gridOf R w).lights[k]? = some l) {n : Nat} {word : List Int} (hn : W[n]? = some word) :
    ((wordsOf W).map (standsIn (gridOf R w) l)).getD n false = standsM (slotF R (gridOf R w).lights (l, k)) word := by
  have e : ((wordsOf W).map (standsIn (gridOf R w) l))[n]? = some (standsIn (gridOf R w) l (word.map ltr)) := by
    unfold wordsOf
    rw [List.getElem?_map, List.getElem?_map, hn]
    rfl
  rw [getD_at e]
  exact (stands_eq hR (List.mem_of_getElem? hl) (hW.each word (List.mem_of_getElem? hn)).2.2 _).symm
theorem stands_len {s : SlotD} {word : List Int} (h : standsM s word = true) : word.length = s.cells.length := by
  unfold standsM at h
  rw [Bool.and_eq_true] at h
  exact of_decide_eq_true h.1
theorem valid_snoc {sl : List SlotD} {W : List (List Int)} {had : List Nat} {n : Nat} (hv : Valid sl W had) (hl : had.length < sl.length) (h : wrongM sl W had n = 0) : Valid sl W (had ++ [n]) := by
  intro k m hk
  by_cases e : k < had.length
  · rw [List.getElem?_append_left e] at hk
    exact hv k m hk
  · have e2 : k = had.length := by
      have := (List.getElem?_eq_some_iff.mp hk).1
      simp at this
      omega
    subst e2
    have e3 : n = m := by simpa using hk
    subst e3
    have hs : sl[had.length]? = some sl[had.length] := List.getElem?_eq_getElem hl
    refine ⟨_, hs, ?_⟩
    unfold wrongM at h
    rw [hs] at h
    simp only at h
    by_cases h2 : W.length ≤ n
    · rw [if_pos h2] at h; cases h
    · rw [if_neg h2] at h
      by_cases h3 : standsM sl[had.length] (W.getD n []) = false
      · rw [if_pos h3] at h; cases h
      · refine ⟨by omega, stands_len ?_⟩
        cases e : standsM sl[had.length] (W.getD n []) with
        | true => rfl
        | false => exact absurd e h3
end Cf
end
section
set_option Elab.async false
set_option linter.all false
/-! Slots in order; what fits is to answer. -/
namespace Cf
open ClLat ClFill
/-- places that a slot names are there -/
def SlotsOk (sl : List SlotD) : Prop := ∀ (k : Nat) (s : SlotD), sl[k]? = some s → (∀ y ∈ s.lk, y.1 < s.cells.length) ∧ ∀ y ∈ s.cr, y.1 < s.cells.length ∧ y.2.1 < k ∧ ∀ s2 : SlotD, sl[y.2.1]? = some s2 → y.2.2 < s2.cells.length
theorem lockedM_lt {R : List (List Int)} {cs : List Cell} {y : Nat × Int} (h : y ∈ lockedM R cs) : y.1 < cs.length := by
  unfold lockedM at h
  rw [List.mem_filterMap] at h
  obtain ⟨⟨c, i⟩, hci, hf⟩ := h
  rw [List.mem_zipIdx_iff_getElem?] at hci
  have := (List.getElem?_eq_some_iff.mp hci).1
  unfold lockF at hf
  split at hf
  · have e : (i, byteAt R c) = y := by simpa using hf
    rw [← e]; exact this
  · cases hf
theorem slots_ok (R : List (List Int)) (ls : List Light) : SlotsOk (slotsM R ls) := by
  intro k s hs
  have hk : k < ls.length := by
    have := (List.getElem?_eq_some_iff.mp hs).1
    rwa [slots_len] at this
  have hl : ls[k]? = some ls[k] := List.getElem?_eq_getElem hk
  rw [slots_get R ls hl] at hs
  have es : slotF R ls (ls[k], k) = s := Option.some.inj hs
  subst es
  refine ⟨fun y hy => lockedM_lt hy, fun y hy => ?_⟩
  obtain ⟨m, hm, hc⟩ := mem_crossM hy
  obtain ⟨c1, c2⟩ := cross_at hc
  have hyk : y.2.1 < k := by
    have := (List.getElem?_eq_some_iff.mp hm).1
    rw [List.length_take] at this
    omega
  have hcl : ∀ l : Light, l.cells.length = l.length := fun l => by unfold Light.cells; rw [List.length_map, List.length_range]
  refine ⟨?_, hyk, fun s2 hs2 => ?_⟩
  · show y.1 < ls[k].cells.length
    rw [hcl]; exact c1
  · have hm2 : ls[y.2.1]? = some m := by rw [List.getElem?_take, if_pos hyk] at hm; exact hm
    rw [slots_get R ls hm2] at hs2
    have es : slotF R ls (m, y.2.1) = s2 := Option.some.inj hs2
    rw [← es]
    show y.2.2 < m.cells.length
    rw [hcl]; exact c2
theorem nats_some : ∀ {fs : List Int}, (∀ x ∈ fs, 0 ≤ x) → FillNeutral.nats? fs = some (fs.map Int.toNat)
  | [], _ => rfl
  | a :: fs, h => by
    have ih := nats_some (fs := fs) fun x hx => h x (List.mem_cons_of_mem _ hx)
    unfold FillNeutral.nats? at ih ⊢
    rw [List.mapM_cons, nat_of (h a List.mem_cons_self), ih]
    rfl
/-- what is answered of two texts -/
theorem both_t {t w : List Int} (ht : AreBytes t) {p : Nat} (e : faultM t = some p) (f : Grid → List Letters → Reply) : ofBoth (toB t) (toB w) f = tells (-6) [p] := by
  unfold ofBoth ofGrid
  rw [grid_err ht e]
theorem both_w {t w : List Int} (ht : AreBytes t) (hw : AreBytes w) (e : faultM t = none) {p : Nat} (e2 : faultW w = some p) (f : Grid → List Letters → Reply) : ofBoth (toB t) (toB w) f = tells (-9) [p] := by
  unfold ofBoth ofGrid
  obtain ⟨wd, _, h2⟩ := grid_ok ht e
  rw [h2]
  simp only [words_err hw e2]
theorem both_ok {t w : List Int} (ht : AreBytes t) (hw : AreBytes w) (e : faultM t = none) (e2 : faultW w = none) : ∃ wd, Rect (rowsM t) wd ∧ AreWords (rowsM w) ∧ ∀ f : Grid → List Letters → Reply, ofBoth (toB t) (toB w) f = f (gridOf (rowsM t) wd) (wordsOf (rowsM w)) := by
  obtain ⟨wd, h1, h2⟩ := grid_ok ht e
  obtain ⟨h3, h4⟩ := words_ok hw e2
  refine ⟨wd, h1, h3, fun f => ?_⟩
  unfold ofBoth ofGrid
  rw [h2]
  simp only [h4]
def replyL (a : Reply) : List Int := a.ret :: ((a.nums.map fun (n : Nat) => (n : Int)) ++ a.bytes.map fun (b : UInt8) => (b.toNat : Int))
end Cf
end
section
set_option Elab.async false
set_option linter.all false
/-! The lattice's text with a filling's letters. -/
namespace Cf
open ClLat ClFill
variable {R : List (List Int)} {w : Nat}
/-! ### positions in the text -/
end Cf
end
section
set_option Elab.async false
set_option linter.all false
/-! The search: the program's steps against the specification's. -/
namespace Cf
open ClLat ClFill
variable {R : List (List Int)} {w : Nat}
theorem may_eq (hR : Rect R w) {W : List (List Int)} (hW : AreWords W) {had : List Nat} (hv : Valid (slotsM R (gridOf R w).lights) W had) (hl : had.length < (gridOf R w).lights.length) {n : Nat} (hn : n < W.length) {t : Turn} (ht : (turnsOf (gridOf R w) (wordsOf W))[had.length]? = some t) :
    mayStand (wordsOf W) t had n = decide (wrongM (slotsM R (gridOf R w).lights) W had n = 0) := by
  have hlt : (gridOf R w).lights[had.length]? = some (gridOf R w).lights[had.length] := List.getElem?_eq_getElem hl
  rw [turns_get _ _ hlt] at ht
  have et := Option.some.inj ht
  subst et
  have hnW : W[n]? = some W[n] := List.getElem?_eq_getElem hn
  have ew : wrongM (slotsM R (gridOf R w).lights) W had n = if standsM (slotF R (gridOf R w).lights ((gridOf R w).lights[had.length], had.length)) W[n] = false then 3 else if had.contains n = true then 4 else if agreesM (slotF R (gridOf R w).lights ((gridOf R w).lights[had.length], had.length)) W had W[n] = true then 0 else 5 := by
    unfold wrongM
    rw [slots_get R _ hlt]
    simp only
    rw [if_neg (by omega), getD_at hnW]
  refine Eq.trans ?_ (congrArg (fun (z : Nat) => decide (z = 0)) ew).symm
  unfold mayStand
  simp only
  rw [stands_at hR hW hlt hnW]
  cases hst : standsM (slotF R (gridOf R w).lights ((gridOf R w).lights[had.length], had.length)) W[n] with
  | false => simp
  | true =>
    have hml : (gridOf R w).lights[had.length].cells.length = (gridOf R w).lights[had.length].length := by unfold Light.cells; rw [List.length_map, List.length_range]
    have ag := agrees_eq hR hW hv hlt hnW (by rw [stands_len hst]; exact hml)
    rw [ag]
    cases had.contains n with
    | true => simp
    | false =>
      cases agreesM (slotF R (gridOf R w).lights ((gridOf R w).lights[had.length], had.length)) W had W[n] with
      | true => simp
      | false => simp
theorem search_back (ws : List Letters) (ts : List Turn) (f c : Nat) (r : List Nat) (k : Nat) (h : ¬ k < ws.length) : search ws ts f (c :: r) k = search ws ts f r (c + 1) := by
  have e : onward ws.length (c :: r) k = onward ws.length r (c + 1) := by rw [onward, if_neg h]
  cases f with
  | zero => unfold search; rw [e]
  | succ f => unfold search; rw [e]
theorem search_end (ws : List Letters) (ts : List Turn) (f k : Nat) (h : ¬ k < ws.length) : search ws ts f [] k = .none := by
  have e : onward ws.length [] k = none := by rw [onward, if_neg h]
  cases f with
  | zero => unfold search; rw [e]
  | succ f => unfold search; rw [e]
theorem onward_here (many : Nat) (had : List Nat) (k : Nat) (h : k < many) : onward many had k = some (had, k) := by
  cases had with
  | nil => rw [onward, if_pos h]
  | cons c r => rw [onward, if_pos h]
theorem search_zero (ws : List Letters) (ts : List Turn) (had : List Nat) (k : Nat) (h : k < ws.length) : search ws ts 0 had k = .out := by
  unfold search
  rw [onward_here _ _ _ h]
theorem search_step (ws : List Letters) (ts : List Turn) (f : Nat) (had : List Nat) (k : Nat) (h : k < ws.length) {t : Turn} (ht : ts[had.length]? = some t) :
    search ws ts (f + 1) had k = if mayStand ws t had.reverse k = true then (if had.length + 1 = ts.length then .filling (had.reverse ++ [k]) f else search ws ts f (k :: had) 0) else search ws ts f had (k + 1) := by
  conv => lhs; unfold search
  rw [onward_here _ _ _ h]
  simp only
  rw [ht]
/-- what comes of words in some lights, the next word's number, trials -/
def resS (ws : List Letters) (ts : List Turn) (st : List Nat) (k f : Nat) : Found := if st.length < ts.length then search ws ts f st.reverse k else .filling st f
theorem first_res (ws : List Letters) (ts : List Turn) (n : Nat) : firstOf ws ts n = resS ws ts [] 0 n := by
  unfold firstOf resS
  by_cases h : ts = []
  · subst h
    rfl
  · rw [if_neg h, if_pos (show ([] : List Nat).length < ts.length from List.length_pos_iff.mpr h)]
    rfl
theorem next_res (ws : List Letters) (ts : List Turn) (left : Nat) (st : List Nat) (c : Nat) (h : (st ++ [c]).length ≤ ts.length) : nextOf ws ts left (st ++ [c]) = resS ws ts st (c + 1) left := by
  unfold nextOf resS
  rw [List.reverse_append]
  simp only [List.reverse_cons, List.reverse_nil, List.nil_append, List.cons_append]
  rw [if_pos (by simp at h; omega)]
theorem res_back (ws : List Letters) (ts : List Turn) (st : List Nat) (c k f : Nat) (hl : (st ++ [c]).length < ts.length) (h : ¬ k < ws.length) : resS ws ts (st ++ [c]) k f = resS ws ts st (c + 1) f := by
  unfold resS
  simp at hl
  rw [if_pos (by simp; omega), if_pos (by omega), List.reverse_append]
  exact search_back ws ts f c st.reverse k h
theorem res_end (ws : List Letters) (ts : List Turn) (k f : Nat) (hl : 0 < ts.length) (h : ¬ k < ws.length) : resS ws ts [] k f = .none := by
  unfold resS
  rw [if_pos (show ([] : List Nat).length < ts.length from hl)]
  exact search_end ws ts f k h
theorem res_out (ws : List Letters) (ts : List Turn) (st : List Nat) (k : Nat) (hl : st.length < ts.length) (h : k < ws.length) : resS ws ts st k 0 = .out := by
  unfold resS
  rw [if_pos hl]
  exact search_zero ws ts _ k h
theorem res_step (hR : Rect R w) {W : List (List Int)} (hW : AreWords W) {st : List Nat} (hv : Valid (slotsM R (gridOf R w).lights) W st) (hl : st.length < (gridOf R w).lights.length) {k : Nat} (hk : k < W.length) (f : Nat) :
    resS (wordsOf W) (turnsOf (gridOf R w) (wordsOf W)) st k (f + 1) = if wrongM (slotsM R (gridOf R w).lights) W st k = 0 then resS (wordsOf W) (turnsOf (gridOf R w) (wordsOf W)) (st ++ [k]) 0 f else resS (wordsOf W) (turnsOf (gridOf R w) (wordsOf W)) st (k + 1) f := by
  have htl := turns_len (gridOf R w) (wordsOf W)
  have hwl : (wordsOf W).length = W.length := by unfold wordsOf; rw [List.length_map]
  have ht : (turnsOf (gridOf R w) (wordsOf W))[st.length]? = some (turnsOf (gridOf R w) (wordsOf W))[st.length] := List.getElem?_eq_getElem (by omega)
  have hm := may_eq hR hW hv hl hk ht
  have e1 : resS (wordsOf W) (turnsOf (gridOf R w) (wordsOf W)) st k (f + 1) = search (wordsOf W) (turnsOf (gridOf R w) (wordsOf W)) (f + 1) st.reverse k := by unfold resS; rw [if_pos (by omega)]
  rw [e1, search_step _ _ _ _ _ (by omega) (t := (turnsOf (gridOf R w) (wordsOf W))[st.length]) (by rw [List.length_reverse]; exact ht), List.reverse_reverse, List.length_reverse, hm]
  by_cases h0 : wrongM (slotsM R (gridOf R w).lights) W st k = 0
  · rw [if_pos (decide_eq_true h0), if_pos h0]
    unfold resS
    by_cases hE : st.length + 1 = (turnsOf (gridOf R w) (wordsOf W)).length
    · rw [if_pos hE, if_neg (by simp; omega)]
    · rw [if_neg hE, if_pos (by simp; omega), List.reverse_append]
      rfl
  · rw [if_neg (by simpa using h0), if_neg h0]
    unfold resS
    rw [if_pos (by omega)]
theorem call_first {t wn : List Int} {n : Int} (hn : 0 ≤ n) (ht : AreBytes t) (hw : AreBytes wn) : FillNeutral.callOf [[6, n], t, wn] = some (.first (toB t) (toB wn) n.toNat) := by
  show (match FillNeutral.nat? n, FillNeutral.text? t, FillNeutral.text? wn with
    | some x, some y, some z => some (ClFill.Call.first y z x)
    | _, _, _ => none) = _
  rw [nat_of hn, text_of ht, text_of hw]
theorem call_next {t wn a : List Int} {n : Int} (hn : 0 ≤ n) (ht : AreBytes t) (hw : AreBytes wn) (ha : ∀ x ∈ a, 0 ≤ x) : FillNeutral.callOf [[7, n], t, wn, a] = some (.next (toB t) (toB wn) n.toNat (a.map Int.toNat)) := by
  show (match FillNeutral.nat? n, FillNeutral.text? t, FillNeutral.text? wn, FillNeutral.nats? a with
    | some x, some y, some z, some l => some (ClFill.Call.next y z x l)
    | _, _, _, _ => none) = _
  rw [nat_of hn, text_of ht, text_of hw, nats_some ha]
theorem next_due {t wn a : List Int} {n : Int} (hn : 0 ≤ n) (ht : AreBytes t) (hw : AreBytes wn) (ha : ∀ x ∈ a, 0 ≤ x) : PyWqbabt.next_of n t wn a = replyL (ofBoth (toB t) (toB wn) fun g ws => if n.toNat = 0 ∨ TRIALS < n.toNat then says (-1) else if (a.map Int.toNat).length ≠ (turnsOf g ws).length then says (-4) else found (behindFrom ws (turnsOf g ws) (a.map Int.toNat) (n.toNat + 1) (firstOf ws (turnsOf g ws) n.toNat))) := by
  show FillNeutral.f [[7, n], t, wn, a] = _
  unfold FillNeutral.f
  rw [call_next hn ht hw ha]
  rfl
end Cf
end
section
set_option Elab.async false
set_option linter.all false
/-! The first filling behind some numbers: the fillings gone through are no more than the trials. -/
namespace Cf
open ClLat ClFill
/-- a filling found costs a trial -/
theorem search_left (ws : List Letters) (ts : List Turn) : ∀ (f : Nat) (had : List Nat) (k : Nat) (g : List Nat) (left : Nat), search ws ts f had k = .filling g left → left < f
  | 0, had, k, g, left, h => by
    unfold search at h
    split at h <;> cases h
  | f + 1, had, k, g, left, h => by
    unfold search at h
    split at h
    · cases h
    · split at h
      · cases h
      · split at h
        · split at h
          · injection h with _ e2
            omega
          · have := search_left ws ts f _ _ g left h
            omega
        · have := search_left ws ts f _ _ g left h
          omega
theorem next_left (ws : List Letters) (ts : List Turn) (left : Nat) (f g : List Nat) (l : Nat) (h : nextOf ws ts left f = .filling g l) : l < left := by
  unfold nextOf at h
  split at h
  · cases h
  · exact search_left ws ts _ _ _ _ _ h
/-- so many may be gone through -/
def Enough (m : Nat) (x : Found) : Prop := 1 ≤ m ∧ ∀ f left, x = .filling f left → left + 2 ≤ m ∨ (f = [] ∧ 2 ≤ m)
theorem enough_first (ws : List Letters) (ts : List Turn) {n : Nat} (hn : n ≠ 0) : Enough (n + 1) (firstOf ws ts n) := by
  refine ⟨by omega, fun f left h => ?_⟩
  unfold firstOf at h
  split at h
  · injection h with e1 e2
    exact .inr ⟨e1.symm, by omega⟩
  · have := search_left ws ts _ _ _ _ _ h
    exact .inl (by omega)
theorem enough_next (ws : List Letters) (ts : List Turn) {m left : Nat} {f : List Nat} (h : Enough (m + 1) (.filling f left)) : Enough m (nextOf ws ts left f) := by
  have h2 := h.2 f left rfl
  refine ⟨by omega, fun g l e => ?_⟩
  have h3 := next_left ws ts left f g l e
  rcases h2 with z | ⟨z, _⟩
  · exact .inl (by omega)
  · subst z
    cases e
theorem behind_filling (ws : List Letters) (ts : List Turn) (a : List Nat) (m : Nat) (f : List Nat) (left : Nat) : behindFrom ws ts a (m + 1) (.filling f left) = if isBefore a f = true then .filling f left else behindFrom ws ts a m (nextOf ws ts left f) := by
  rw [behindFrom]
theorem behind_none (ws : List Letters) (ts : List Turn) (a : List Nat) {m : Nat} (h : 1 ≤ m) : behindFrom ws ts a m .none = .none := by
  obtain ⟨r, rfl⟩ : ∃ r, m = r + 1 := ⟨m - 1, by omega⟩
  rfl
theorem behind_out (ws : List Letters) (ts : List Turn) (a : List Nat) {m : Nat} : behindFrom ws ts a m .out = .out := by
  cases m <;> rfl
/-- the first that differs says it -/
theorem before_same (n : Nat) (r t : List Nat) : isBefore (n :: r) (n :: t) = isBefore r t := by
  rw [isBefore]
  simp
theorem before_ne {n m : Nat} (h : n ≠ m) (r t : List Nat) : isBefore (n :: r) (m :: t) = decide (n < m) := by
  rw [isBefore]
  have : (n == m) = false := by simpa using h
  rw [this]
  simp
end Cf
end
section
set_option Elab.async false
set_option linter.all false
set_option maxRecDepth 100000
/-! Rules of the hand layer's kind that it lacks: cells (tuples of two ints) looked for in a list. -/
namespace L2
open PySem PySem.Spec PyProof.Rows
def tupD (c : ClLat.Cell) : PyData := .tuple [.int (c.1 : Nat), .int (c.2 : Nat)]
theorem dp_pair {K : PySem.W.Frag} {H : Hp} {p : Addr} {c : ClLat.Cell} (h : PairAt H p (Cf.cI c)) : Dp K H (.ref p) (tupD c) := .tup (SqT.of h) (.cons (.int _) (.cons (.int _) .nil))
theorem dp_pairs {K : PySem.W.Frag} {H : Hp} : ∀ {ps : List Addr} {cs : List ClLat.Cell}, Al (fun p (x : ClLat.Cell) => PairAt H p (Cf.cI x)) ps cs → DpAll K H (ps.map V.ref) (cs.map tupD)
  | [], [], _ => .nil
  | _ :: _, _ :: _, h => .cons (dp_pair h.1) (dp_pairs h.2)
  | [], _ :: _, h => h.elim
  | _ :: _, [], h => h.elim
theorem canLay_pair (c : ClLat.Cell) : (tupD c).canLay0 = true := by simp [tupD, PyData.canLay0, PyData.canLayAll0]
theorem canLay_pairs : ∀ cs : List ClLat.Cell, PyData.canLayAll0 (cs.map tupD) = true
  | [] => by simp [PyData.canLayAll0]
  | c :: cs => by rw [List.map_cons, PyData.canLayAll0, canLay_pair, canLay_pairs cs]; rfl
theorem depth_pair (c : ClLat.Cell) : (tupD c).depth = 1 := by simp [tupD, PyData.depth, PyData.depthAll]
theorem eqv_pair (a b : ClLat.Cell) : PyData.eqv (tupD a) (tupD b) = decide (a = b) := by
  have e : PyData.eqv (tupD a) (tupD b) = (((a.1 : Int) == (b.1 : Int)) && (((a.2 : Int) == (b.2 : Int)) && true)) := by simp [tupD, PyData.eqv, PyData.eqvAll]
  rw [e]
  obtain ⟨a1, a2⟩ := a
  obtain ⟨b1, b2⟩ := b
  by_cases h1 : a1 = b1
  · by_cases h2 : a2 = b2
    · subst h1 h2; simp
    · simp [h1, h2]
      omega
  · simp [h1]
    omega
theorem any_pair (cs : List ClLat.Cell) (c : ClLat.Cell) : ((cs.map tupD).any fun y => PyData.eqv y (tupD c)) = decide (c ∈ cs) := by
  rw [List.any_map]
  induction cs with
  | nil => rfl
  | cons x xs ih =>
    rw [List.any_cons, ih]
    show (PyData.eqv (tupD x) (tupD c) || _) = _
    rw [eqv_pair]
    by_cases h : c = x
    · subst h; simp
    · have h' : ¬ x = c := fun z => h z.symm
      simp [h, h']
section
variable {X : Cx}
def rInC : R2 := fun x y H Q => ∃ a p cs c, x = .ref a ∧ y = .ref p ∧ CellsAt H p cs ∧ PairAt H a (Cf.cI c) ∧ Q (.bl (decide (c ∈ cs))) H
theorem op_in_cells (hu : X.A.units + 64 < cLine) : OpR X (compareOp .In) rInC := by
  intro pins s σ H x y v u Q I rx ry h
  obtain ⟨a, p, cs, c, rfl, rfl, hp, ha, q⟩ := h
  obtain ⟨ps, hl, hal⟩ := hp.ex
  obtain ⟨as, r1⟩ := Dp.reads I (tupD c) _ v (dp_pair ha) rx
  obtain ⟨bs, r2⟩ := Dp.reads I (.list (cs.map tupD)) _ u (.lst (SqL.of hl) (dp_pairs hal)) ry
  refine SeqAt.in_list_reads r2 r1 (canLay_pairs cs) (canLay_pair c) ?_ ⟨.bl _, H, I, rfl, ?_⟩
  · rw [depth_pair]
    have := Nat.min_le_right (PyData.depthAll (cs.map tupD)) 1
    omega
  · rw [any_pair]
    exact q
def rIndexC : V → List V → Hp → VK → Prop := fun x xs H Q => ∃ a p cs c j, x = .ref p ∧ xs = [.ref a] ∧ CellsAt H p cs ∧ PairAt H a (Cf.cI c) ∧ cs[j]? = some c ∧ (∀ m, m < j → cs[m]? ≠ some c) ∧ Q (.int (j : Nat)) H
theorem mt_index_cells (hu : X.A.units + 64 < cLine) : MtR X "list.index" rIndexC := by
  intro pins s σ H x xs v us Q I rx rxs h
  obtain ⟨a, p, cs, c, j, rfl, rfl, hp, ha, hj, hno, q⟩ := h
  obtain ⟨ps, hl, hal⟩ := hp.ex
  cases rx
  cases rxs with
  | cons ry rt =>
    rename_i uy ut
    cases rt
    obtain ⟨as, r1⟩ := Dp.reads I (tupD c) _ uy (dp_pair ha) ry
    have hs : SqL X.K H p (ps.map V.ref) := SqL.of hl
    obtain ⟨its, rv, ⟨⟨cls, dd, data, sl⟩, n, ho, hc, hdn, hd⟩, hlen⟩ := I.list hs
    simp only at hc hd
    subst hc hd
    obtain ⟨bs, r2⟩ := Dp.readsAll I (cs.map tupD) _ its (dp_pairs hal) rv
    have r2' : ReadsAll s.heap its.toArray.toList (cs.map tupD) bs := by simpa using r2
    have hm := SeqAt.readsAll_map (cs.map tupD) its bs (canLay_pairs cs) r2
    have hil : its.length = cs.length := by
      have := congrArg List.length hm
      rwa [List.length_map, List.length_map] at this
    obtain ⟨hjl, hje⟩ := List.getElem?_eq_some_iff.mp hj
    have hjt : j < its.toArray.size := by simp; omega
    have hsl := sizeLine_eq
    have hpl := hal.length
    have hat : ∀ m (hm2 : m < its.toArray.size) (h2 : m < cs.length), SeqAt.readOf s.heap its.toArray[m] = tupD cs[m] := fun m hm2 h2 => by
      have e1 : (its.map (SeqAt.readOf s.heap))[m]? = (cs.map tupD)[m]? := by rw [hm]
      have h3 : m < its.length := by simpa using hm2
      rw [List.getElem?_map, List.getElem?_map, List.getElem?_eq_getElem h3, List.getElem?_eq_getElem h2] at e1
      have := Option.some.inj e1
      simpa using this
    have hlen' : ps.length ≤ sizeLine := by rw [List.length_map] at hlen; exact hlen
    refine call_meets PySem.F.slot_list_index ⟨_, ho, rfl⟩ PySem.F.entry_list_index (PySem.F.args_list_index_2 _ _)
      (SeqAt.list_indexAt p its.toArray n dd sl uy (fun y => PyData.eqv (SeqAt.readOf s.heap y) (tupD c)) j hjt (by omega) ?_ ?_) ⟨ho, SeqAt.items_eqAt r2' r1 (canLay_pairs cs) (canLay_pair c) ?_, ?_⟩
    · show PyData.eqv (SeqAt.readOf s.heap its.toArray[j]) (tupD c) = true
      rw [hat j hjt hjl, eqv_pair, hje]
      exact decide_eq_true rfl
    · intro m hm2 hmj
      have h2 : m < cs.length := by omega
      show PyData.eqv (SeqAt.readOf s.heap its.toArray[m]) (tupD c) = false
      rw [hat m hm2 h2, eqv_pair]
      refine decide_eq_false fun e => hno m hmj ?_
      rw [List.getElem?_eq_getElem h2, e]
    · rw [depth_pair]
      have := Nat.min_le_right (PyData.depthAll (cs.map tupD)) 1
      omega
    · exact ⟨.int (j : Nat), H, I.tok _, ⟨_, rfl⟩, q⟩
end
end L2
end
section
set_option Elab.async false
set_option linter.all false
set_option maxRecDepth 100000
set_option maxHeartbeats 2000000
namespace S
open PySem PySem.Spec PyProof.Rows L2
def top (i : Nat) : Stmt := PySem.Challenge.pw_crossfilldesk_s07_next_of.main.body.getD i (.Pass ⟨0, 0, 0, 0⟩)
abbrev s_is_letter : Stmt := top 8
abbrev s_is_cell : Stmt := top 9
abbrev s_may_follow_texts : Stmt := top 10
abbrev s_first_fault : Stmt := top 12
abbrev s_lines_of : Stmt := top 13
abbrev s_cells_of : Stmt := top 17
abbrev s_is_white : Stmt := top 18
abbrev s_moved : Stmt := top 19
abbrev s_begins_light : Stmt := top 22
abbrev s_white_run : Stmt := top 23
abbrev s_lights_of : Stmt := top 24
abbrev s_crossing : Stmt := top 25
abbrev s_locked_letters : Stmt := top 33
abbrev s_earlier_crossings : Stmt := top 34
abbrev s_slots_of : Stmt := top 35
abbrev s_stands_by_itself : Stmt := top 36
abbrev s_agrees_with_earlier : Stmt := top 37
abbrev s_wrong_with : Stmt := top 38
abbrev s_may_follow_wordlists : Stmt := top 43
abbrev s_first_fault_of_words : Stmt := top 45
abbrev s_refused_lattice : Stmt := top 53
abbrev s_refused_words : Stmt := top 54
abbrev s_refused_texts : Stmt := top 55
abbrev s_refused_search : Stmt := top 56
abbrev s_is_behind : Stmt := top 60
abbrev s_first_behind : Stmt := top 61
abbrev s_search_of : Stmt := top 63
abbrev s_told_filling : Stmt := top 64
abbrev s_next_of : Stmt := top 65
abbrev s_Light_init : Stmt := inClass (top 21) 0
abbrev s_Slot_init : Stmt := inClass (top 32) 0
abbrev s_Search_init : Stmt := inClass (top 59) 0
abbrev s_Search_following : Stmt := inClass (top 59) 1
abbrev s_Search_step_back : Stmt := inClass (top 59) 2
abbrev s_Search_try_word : Stmt := inClass (top 59) 3
set_option genInjectivity false in
set_option genSizeOfSpec false in
structure Adr where
  (a_is_letter a_is_cell a_may_follow_texts a_first_fault a_lines_of a_cells_of a_is_white a_moved a_begins_light a_white_run a_lights_of a_crossing a_locked_letters a_earlier_crossings a_slots_of a_stands_by_itself a_agrees_with_earlier a_wrong_with a_may_follow_wordlists a_first_fault_of_words a_refused_lattice a_refused_words a_refused_texts a_refused_search a_is_behind a_first_behind a_search_of a_told_filling a_next_of a_Light_init a_Slot_init a_Search_init a_Search_following a_Search_step_back a_Search_try_word c_Light c_Slot c_TooFewTrials c_Search : Addr)
  (d_is_letter d_is_cell d_may_follow_texts d_first_fault d_lines_of d_cells_of d_is_white d_moved d_begins_light d_white_run d_lights_of d_crossing d_locked_letters d_earlier_crossings d_slots_of d_stands_by_itself d_agrees_with_earlier d_wrong_with d_may_follow_wordlists d_first_fault_of_words d_refused_lattice d_refused_words d_refused_texts d_refused_search d_is_behind d_first_behind d_search_of d_told_filling d_next_of d_Light_init d_Slot_init d_Search_init d_Search_following d_Search_step_back d_Search_try_word : FuncData)
structure Txt (K : PySem.W.Frag) (mg : Str → Option Value) (A : Adr) : Prop where
  g_LINE_END : ∃ t, mg "LINE_END" = some (.int (10) t)
  g_BLOCK : ∃ t, mg "BLOCK" = some (.int (35) t)
  g_WHITE : ∃ t, mg "WHITE" = some (.int (46) t)
  g_LETTER_A : ∃ t, mg "LETTER_A" = some (.int (65) t)
  g_LETTER_Z : ∃ t, mg "LETTER_Z" = some (.int (90) t)
  g_LEAST_SIDE : ∃ t, mg "LEAST_SIDE" = some (.int (2) t)
  g_MOST_SIDE : ∃ t, mg "MOST_SIDE" = some (.int (9) t)
  g_ACROSS : ∃ t, mg "ACROSS" = some (.int (0) t)
  g_DOWN : ∃ t, mg "DOWN" = some (.int (1) t)
  g_NOTHING_WRONG : ∃ t, mg "NOTHING_WRONG" = some (.int (0) t)
  g_NO_SUCH_WORD : ∃ t, mg "NO_SUCH_WORD" = some (.int (2) t)
  g_NOT_BY_ITSELF : ∃ t, mg "NOT_BY_ITSELF" = some (.int (3) t)
  g_STANDS_BEFORE : ∃ t, mg "STANDS_BEFORE" = some (.int (4) t)
  g_CROSSES_WRONGLY : ∃ t, mg "CROSSES_WRONGLY" = some (.int (5) t)
  g_LEAST_LETTERS : ∃ t, mg "LEAST_LETTERS" = some (.int (2) t)
  g_MOST_LETTERS : ∃ t, mg "MOST_LETTERS" = some (.int (9) t)
  g_MOST_WORDS : ∃ t, mg "MOST_WORDS" = some (.int (200) t)
  g_NO_LATTICE : ∃ t, mg "NO_LATTICE" = some (.int (-6) t)
  g_NO_WORDS : ∃ t, mg "NO_WORDS" = some (.int (-9) t)
  g_OUT_OF_RANGE : ∃ t, mg "OUT_OF_RANGE" = some (.int (-1) t)
  g_NO_SUCH : ∃ t, mg "NO_SUCH" = some (.int (-4) t)
  g_TOO_FEW : ∃ t, mg "TOO_FEW" = some (.int (-7) t)
  g_MOST_TRIALS : ∃ t, mg "MOST_TRIALS" = some (.int (100000) t)
  b_enumerate : mg "enumerate" = none
  b_len : mg "len" = none
  b_list : mg "list" = none
  b_range : mg "range" = none
  b_zip : mg "zip" = none
  m_is_letter : mg "is_letter" = some (.ref A.a_is_letter)
  F_is_letter : Fun K "is_letter" "is_letter" s_is_letter A.a_is_letter A.d_is_letter
  bd_is_letter : L2.Binds K A.d_is_letter ["byte"] []
  m_is_cell : mg "is_cell" = some (.ref A.a_is_cell)
  F_is_cell : Fun K "is_cell" "is_cell" s_is_cell A.a_is_cell A.d_is_cell
  bd_is_cell : L2.Binds K A.d_is_cell ["byte"] []
  m_may_follow_texts : mg "may_follow_texts" = some (.ref A.a_may_follow_texts)
  F_may_follow_texts : Fun K "may_follow" "may_follow" s_may_follow_texts A.a_may_follow_texts A.d_may_follow_texts
  bd_may_follow_texts : L2.Binds K A.d_may_follow_texts ["byte", "row", "column", "least", "most"] []
  m_first_fault : mg "first_fault" = some (.ref A.a_first_fault)
  F_first_fault : Fun K "first_fault" "first_fault" s_first_fault A.a_first_fault A.d_first_fault
  bd_first_fault : L2.Binds K A.d_first_fault ["t"] []
  m_lines_of : mg "lines_of" = some (.ref A.a_lines_of)
  F_lines_of : Fun K "lines_of" "lines_of" s_lines_of A.a_lines_of A.d_lines_of
  bd_lines_of : L2.Binds K A.d_lines_of ["text"] []
  m_cells_of : mg "cells_of" = some (.ref A.a_cells_of)
  F_cells_of : Fun K "cells_of" "cells_of" s_cells_of A.a_cells_of A.d_cells_of
  bd_cells_of : L2.Binds K A.d_cells_of ["rows"] []
  m_is_white : mg "is_white" = some (.ref A.a_is_white)
  F_is_white : Fun K "is_white" "is_white" s_is_white A.a_is_white A.d_is_white
  bd_is_white : L2.Binds K A.d_is_white ["rows", "cell"] []
  m_moved : mg "moved" = some (.ref A.a_moved)
  F_moved : Fun K "moved" "moved" s_moved A.a_moved A.d_moved
  bd_moved : L2.Binds K A.d_moved ["cell", "way", "steps"] []
  m_begins_light : mg "begins_light" = some (.ref A.a_begins_light)
  F_begins_light : Fun K "begins_light" "begins_light" s_begins_light A.a_begins_light A.d_begins_light
  bd_begins_light : L2.Binds K A.d_begins_light ["rows", "cell", "way"] []
  m_white_run : mg "white_run" = some (.ref A.a_white_run)
  F_white_run : Fun K "white_run" "white_run" s_white_run A.a_white_run A.d_white_run
  bd_white_run : L2.Binds K A.d_white_run ["rows", "start", "way"] []
  m_lights_of : mg "lights_of" = some (.ref A.a_lights_of)
  F_lights_of : Fun K "lights_of" "lights_of" s_lights_of A.a_lights_of A.d_lights_of
  bd_lights_of : L2.Binds K A.d_lights_of ["rows"] []
  m_crossing : mg "crossing" = some (.ref A.a_crossing)
  F_crossing : Fun K "crossing" "crossing" s_crossing A.a_crossing A.d_crossing
  bd_crossing : L2.Binds K A.d_crossing ["light", "other"] []
  m_locked_letters : mg "locked_letters" = some (.ref A.a_locked_letters)
  F_locked_letters : Fun K "locked_letters" "locked_letters" s_locked_letters A.a_locked_letters A.d_locked_letters
  bd_locked_letters : L2.Binds K A.d_locked_letters ["rows", "light"] []
  m_earlier_crossings : mg "earlier_crossings" = some (.ref A.a_earlier_crossings)
  F_earlier_crossings : Fun K "earlier_crossings" "earlier_crossings" s_earlier_crossings A.a_earlier_crossings A.d_earlier_crossings
  bd_earlier_crossings : L2.Binds K A.d_earlier_crossings ["lights", "light"] []
  m_slots_of : mg "slots_of" = some (.ref A.a_slots_of)
  F_slots_of : Fun K "slots_of" "slots_of" s_slots_of A.a_slots_of A.d_slots_of
  bd_slots_of : L2.Binds K A.d_slots_of ["rows"] []
  m_stands_by_itself : mg "stands_by_itself" = some (.ref A.a_stands_by_itself)
  F_stands_by_itself : Fun K "stands_by_itself" "stands_by_itself" s_stands_by_itself A.a_stands_by_itself A.d_stands_by_itself
  bd_stands_by_itself : L2.Binds K A.d_stands_by_itself ["slot", "word"] []
  m_agrees_with_earlier : mg "agrees_with_earlier" = some (.ref A.a_agrees_with_earlier)
  F_agrees_with_earlier : Fun K "agrees_with_earlier" "agrees_with_earlier" s_agrees_with_earlier A.a_agrees_with_earlier A.d_agrees_with_earlier
  bd_agrees_with_earlier : L2.Binds K A.d_agrees_with_earlier ["slot", "words", "earlier", "word"] []
  m_wrong_with : mg "wrong_with" = some (.ref A.a_wrong_with)
  F_wrong_with : Fun K "wrong_with" "wrong_with" s_wrong_with A.a_wrong_with A.d_wrong_with
  bd_wrong_with : L2.Binds K A.d_wrong_with ["slots", "words", "earlier", "number"] []
  m_may_follow_wordlists : mg "may_follow_wordlists" = some (.ref A.a_may_follow_wordlists)
  F_may_follow_wordlists : Fun K "may_follow" "may_follow" s_may_follow_wordlists A.a_may_follow_wordlists A.d_may_follow_wordlists
  bd_may_follow_wordlists : L2.Binds K A.d_may_follow_wordlists ["byte", "whole", "letters"] []
  m_first_fault_of_words : mg "first_fault_of_words" = some (.ref A.a_first_fault_of_words)
  F_first_fault_of_words : Fun K "first_fault_of_words" "first_fault_of_words" s_first_fault_of_words A.a_first_fault_of_words A.d_first_fault_of_words
  bd_first_fault_of_words : L2.Binds K A.d_first_fault_of_words ["w"] []
  m_refused_lattice : mg "refused_lattice" = some (.ref A.a_refused_lattice)
  F_refused_lattice : Fun K "refused_lattice" "refused_lattice" s_refused_lattice A.a_refused_lattice A.d_refused_lattice
  bd_refused_lattice : L2.Binds K A.d_refused_lattice ["t"] []
  m_refused_words : mg "refused_words" = some (.ref A.a_refused_words)
  F_refused_words : Fun K "refused_words" "refused_words" s_refused_words A.a_refused_words A.d_refused_words
  bd_refused_words : L2.Binds K A.d_refused_words ["w"] []
  m_refused_texts : mg "refused_texts" = some (.ref A.a_refused_texts)
  F_refused_texts : Fun K "refused_texts" "refused_texts" s_refused_texts A.a_refused_texts A.d_refused_texts
  bd_refused_texts : L2.Binds K A.d_refused_texts ["t", "w"] []
  m_refused_search : mg "refused_search" = some (.ref A.a_refused_search)
  F_refused_search : Fun K "refused_search" "refused_search" s_refused_search A.a_refused_search A.d_refused_search
  bd_refused_search : L2.Binds K A.d_refused_search ["n", "t", "w"] []
  m_is_behind : mg "is_behind" = some (.ref A.a_is_behind)
  F_is_behind : Fun K "is_behind" "is_behind" s_is_behind A.a_is_behind A.d_is_behind
  bd_is_behind : L2.Binds K A.d_is_behind ["filling", "numbers"] []
  m_first_behind : mg "first_behind" = some (.ref A.a_first_behind)
  F_first_behind : Fun K "first_behind" "first_behind" s_first_behind A.a_first_behind A.d_first_behind
  bd_first_behind : L2.Binds K A.d_first_behind ["search", "numbers"] []
  m_search_of : mg "search_of" = some (.ref A.a_search_of)
  F_search_of : Fun K "search_of" "search_of" s_search_of A.a_search_of A.d_search_of
  bd_search_of : L2.Binds K A.d_search_of ["n", "t", "w"] []
  m_told_filling : mg "told_filling" = some (.ref A.a_told_filling)
  F_told_filling : Fun K "told_filling" "told_filling" s_told_filling A.a_told_filling A.d_told_filling
  bd_told_filling : L2.Binds K A.d_told_filling ["filling"] []
  m_next_of : mg "next_of" = some (.ref A.a_next_of)
  F_next_of : Fun K "next_of" "next_of" s_next_of A.a_next_of A.d_next_of
  bd_next_of : L2.Binds K A.d_next_of ["n", "t", "w", "a"] []
  F_Light_init : Fun K "__init__" "Light.__init__" s_Light_init A.a_Light_init A.d_Light_init
  bd_Light_init : L2.Binds K A.d_Light_init ["self", "number", "way", "cells"] []
  F_Slot_init : Fun K "__init__" "Slot.__init__" s_Slot_init A.a_Slot_init A.d_Slot_init
  bd_Slot_init : L2.Binds K A.d_Slot_init ["self", "cells", "locked", "crossings"] []
  F_Search_init : Fun K "__init__" "Search.__init__" s_Search_init A.a_Search_init A.d_Search_init
  bd_Search_init : L2.Binds K A.d_Search_init ["self", "slots", "words", "trials"] []
  F_Search_following : Fun K "following" "Search.following" s_Search_following A.a_Search_following A.d_Search_following
  bd_Search_following : L2.Binds K A.d_Search_following ["self"] []
  F_Search_step_back : Fun K "step_back" "Search.step_back" s_Search_step_back A.a_Search_step_back A.d_Search_step_back
  bd_Search_step_back : L2.Binds K A.d_Search_step_back ["self"] []
  F_Search_try_word : Fun K "try_word" "Search.try_word" s_Search_try_word A.a_Search_try_word A.d_Search_try_word
  bd_Search_try_word : L2.Binds K A.d_Search_try_word ["self"] []
  me_Search_following : Meth K A.c_Search "following" A.a_Search_following
  me_Search_step_back : Meth K A.c_Search "step_back" A.a_Search_step_back
  me_Search_try_word : Meth K A.c_Search "try_word" A.a_Search_try_word
  m_Light : mg "Light" = some (.ref A.c_Light)
  cl_Light : Cls K A.c_Light
  mk_Light : Mk K A.c_Light A.a_Light_init
  n_Light_number : NoAttr K A.c_Light "number"
  n_Light_way : NoAttr K A.c_Light "way"
  n_Light_cells : NoAttr K A.c_Light "cells"
  m_Slot : mg "Slot" = some (.ref A.c_Slot)
  cl_Slot : Cls K A.c_Slot
  mk_Slot : Mk K A.c_Slot A.a_Slot_init
  n_Slot_cells : NoAttr K A.c_Slot "cells"
  n_Slot_locked : NoAttr K A.c_Slot "locked"
  n_Slot_crossings : NoAttr K A.c_Slot "crossings"
  m_TooFewTrials : mg "TooFewTrials" = some (.ref A.c_TooFewTrials)
  x_TooFewTrials : ExcC K A.c_TooFewTrials
  m_Search : mg "Search" = some (.ref A.c_Search)
  cl_Search : Cls K A.c_Search
  mk_Search : Mk K A.c_Search A.a_Search_init
  n_Search_slots : NoAttr K A.c_Search "slots"
  n_Search_words : NoAttr K A.c_Search "words"
  n_Search_trials : NoAttr K A.c_Search "trials"
  n_Search_standing : NoAttr K A.c_Search "standing"
  n_Search_number : NoAttr K A.c_Search "number"
  n_Search_begun : NoAttr K A.c_Search "begun"
theorem sc_is_letter : FnScope ["byte"] ["byte"] (defScope s_is_letter) := ⟨rfl, rfl, rfl, by decide +kernel, rfl, by decide +kernel, by decide +kernel⟩
theorem sc_is_cell : FnScope ["byte"] ["byte"] (defScope s_is_cell) := ⟨rfl, rfl, rfl, by decide +kernel, rfl, by decide +kernel, by decide +kernel⟩
theorem sc_may_follow_texts : FnScope ["byte", "row", "column", "least", "most"] ["byte", "row", "column", "least", "most"] (defScope s_may_follow_texts) := ⟨rfl, rfl, rfl, by decide +kernel, rfl, by decide +kernel, by decide +kernel⟩
theorem sc_first_fault : FnScope ["t", "row", "column", "least", "most", "place", "byte"] ["t"] (defScope s_first_fault) := ⟨rfl, rfl, rfl, by decide +kernel, rfl, by decide +kernel, by decide +kernel⟩
theorem sc_lines_of : FnScope ["text", "lines", "line", "byte"] ["text"] (defScope s_lines_of) := ⟨rfl, rfl, rfl, by decide +kernel, rfl, by decide +kernel, by decide +kernel⟩
theorem sc_cells_of : FnScope ["rows", "cells", "r", "c"] ["rows"] (defScope s_cells_of) := ⟨rfl, rfl, rfl, by decide +kernel, rfl, by decide +kernel, by decide +kernel⟩
theorem sc_is_white : FnScope ["rows", "cell"] ["rows", "cell"] (defScope s_is_white) := ⟨rfl, rfl, rfl, by decide +kernel, rfl, by decide +kernel, by decide +kernel⟩
theorem sc_moved : FnScope ["cell", "way", "steps"] ["cell", "way", "steps"] (defScope s_moved) := ⟨rfl, rfl, rfl, by decide +kernel, rfl, by decide +kernel, by decide +kernel⟩
theorem sc_begins_light : FnScope ["rows", "cell", "way"] ["rows", "cell", "way"] (defScope s_begins_light) := ⟨rfl, rfl, rfl, by decide +kernel, rfl, by decide +kernel, by decide +kernel⟩
theorem sc_white_run : FnScope ["rows", "start", "way", "run", "cell"] ["rows", "start", "way"] (defScope s_white_run) := ⟨rfl, rfl, rfl, by decide +kernel, rfl, by decide +kernel, by decide +kernel⟩
theorem sc_lights_of : FnScope ["rows", "lights", "number", "cell", "ways", "way"] ["rows"] (defScope s_lights_of) := ⟨rfl, rfl, rfl, by decide +kernel, rfl, by decide +kernel, by decide +kernel⟩
theorem sc_crossing : FnScope ["light", "other", "place", "cell"] ["light", "other"] (defScope s_crossing) := ⟨rfl, rfl, rfl, by decide +kernel, rfl, by decide +kernel, by decide +kernel⟩
theorem sc_locked_letters : FnScope ["rows", "light", "locked", "place", "cell", "byte"] ["rows", "light"] (defScope s_locked_letters) := ⟨rfl, rfl, rfl, by decide +kernel, rfl, by decide +kernel, by decide +kernel⟩
theorem sc_earlier_crossings : FnScope ["lights", "light", "crossings", "earlier", "other", "places"] ["lights", "light"] (defScope s_earlier_crossings) := ⟨rfl, rfl, rfl, by decide +kernel, rfl, by decide +kernel, by decide +kernel⟩
theorem sc_slots_of : FnScope ["rows", "lights", "slots", "place", "light"] ["rows"] (defScope s_slots_of) := ⟨rfl, rfl, rfl, by decide +kernel, rfl, by decide +kernel, by decide +kernel⟩
theorem sc_stands_by_itself : FnScope ["slot", "word", "place", "letter"] ["slot", "word"] (defScope s_stands_by_itself) := ⟨rfl, rfl, rfl, by decide +kernel, rfl, by decide +kernel, by decide +kernel⟩
theorem sc_agrees_with_earlier : FnScope ["slot", "words", "earlier", "word", "place", "other", "other_place"] ["slot", "words", "earlier", "word"] (defScope s_agrees_with_earlier) := ⟨rfl, rfl, rfl, by decide +kernel, rfl, by decide +kernel, by decide +kernel⟩
theorem sc_wrong_with : FnScope ["slots", "words", "earlier", "number", "slot", "word"] ["slots", "words", "earlier", "number"] (defScope s_wrong_with) := ⟨rfl, rfl, rfl, by decide +kernel, rfl, by decide +kernel, by decide +kernel⟩
theorem sc_may_follow_wordlists : FnScope ["byte", "whole", "letters"] ["byte", "whole", "letters"] (defScope s_may_follow_wordlists) := ⟨rfl, rfl, rfl, by decide +kernel, rfl, by decide +kernel, by decide +kernel⟩
theorem sc_first_fault_of_words : FnScope ["w", "whole", "letters", "place", "byte"] ["w"] (defScope s_first_fault_of_words) := ⟨rfl, rfl, rfl, by decide +kernel, rfl, by decide +kernel, by decide +kernel⟩
theorem sc_refused_lattice : FnScope ["t", "fault"] ["t"] (defScope s_refused_lattice) := ⟨rfl, rfl, rfl, by decide +kernel, rfl, by decide +kernel, by decide +kernel⟩
theorem sc_refused_words : FnScope ["w", "fault"] ["w"] (defScope s_refused_words) := ⟨rfl, rfl, rfl, by decide +kernel, rfl, by decide +kernel, by decide +kernel⟩
theorem sc_refused_texts : FnScope ["t", "w", "refusal"] ["t", "w"] (defScope s_refused_texts) := ⟨rfl, rfl, rfl, by decide +kernel, rfl, by decide +kernel, by decide +kernel⟩
theorem sc_refused_search : FnScope ["n", "t", "w", "refusal"] ["n", "t", "w"] (defScope s_refused_search) := ⟨rfl, rfl, rfl, by decide +kernel, rfl, by decide +kernel, by decide +kernel⟩
theorem sc_is_behind : FnScope ["filling", "numbers", "number", "other"] ["filling", "numbers"] (defScope s_is_behind) := ⟨rfl, rfl, rfl, by decide +kernel, rfl, by decide +kernel, by decide +kernel⟩
theorem sc_first_behind : FnScope ["search", "numbers", "filling"] ["search", "numbers"] (defScope s_first_behind) := ⟨rfl, rfl, rfl, by decide +kernel, rfl, by decide +kernel, by decide +kernel⟩
theorem sc_search_of : FnScope ["n", "t", "w"] ["n", "t", "w"] (defScope s_search_of) := ⟨rfl, rfl, rfl, by decide +kernel, rfl, by decide +kernel, by decide +kernel⟩
theorem sc_told_filling : FnScope ["filling"] ["filling"] (defScope s_told_filling) := ⟨rfl, rfl, rfl, by decide +kernel, rfl, by decide +kernel, by decide +kernel⟩
theorem sc_next_of : FnScope ["n", "t", "w", "a", "refusal", "search"] ["n", "t", "w", "a"] (defScope s_next_of) := ⟨rfl, rfl, rfl, by decide +kernel, rfl, by decide +kernel, by decide +kernel⟩
theorem sc_Light_init : FnScope ["self", "number", "way", "cells"] ["self", "number", "way", "cells"] (defScope s_Light_init) := ⟨rfl, rfl, rfl, by decide +kernel, rfl, by decide +kernel, by decide +kernel⟩
theorem sc_Slot_init : FnScope ["self", "cells", "locked", "crossings"] ["self", "cells", "locked", "crossings"] (defScope s_Slot_init) := ⟨rfl, rfl, rfl, by decide +kernel, rfl, by decide +kernel, by decide +kernel⟩
theorem sc_Search_init : FnScope ["self", "slots", "words", "trials"] ["self", "slots", "words", "trials"] (defScope s_Search_init) := ⟨rfl, rfl, rfl, by decide +kernel, rfl, by decide +kernel, by decide +kernel⟩
theorem sc_Search_following : FnScope ["self"] ["self"] (defScope s_Search_following) := ⟨rfl, rfl, rfl, by decide +kernel, rfl, by decide +kernel, by decide +kernel⟩
theorem sc_Search_step_back : FnScope ["self"] ["self"] (defScope s_Search_step_back) := ⟨rfl, rfl, rfl, by decide +kernel, rfl, by decide +kernel, by decide +kernel⟩
theorem sc_Search_try_word : FnScope ["self"] ["self"] (defScope s_Search_try_word) := ⟨rfl, rfl, rfl, by decide +kernel, rfl, by decide +kernel, by decide +kernel⟩
end S
end
section
set_option Elab.async false
set_option linter.all false
set_option maxRecDepth 100000
set_option maxHeartbeats 2000000
namespace S
open PySem PySem.Spec PyProof.Rows L2
-- needs:
section
variable {P : Program} {w : World} {K : PySem.W.Frag} {mg : Str → Option Value} {base : Heap} {A : Adr}
def sp_is_letter : Sp := fun vs H Q _ => ∃ b : Int, vs = [.int b] ∧ Q (.bl (Cf.isLetI b)) H
theorem ok_is_letter (T : Txt K mg A) : FnOk P w K mg base CX0 1 A.a_is_letter A.d_is_letter ["byte"] sp_is_letter := by
  refine T.F_is_letter.ok sc_is_letter (fun vs H Q E h => ?_) (fun cdv Ar outer s H vs Q E hr h => ?_)
  · obtain ⟨b, rfl, _⟩ := h
    rfl
  · obtain ⟨b, rfl, k⟩ := h
    refine ⟨_, (pss_one (ps_ret (pe_chain op_le op_le (pe_globI rfl T.g_LETTER_A) (pv 0) (pe_globI rfl T.g_LETTER_Z)))), ?_⟩
    refine ⟨_, rfl, _, _, rfl, rfl, _, rfl, ite2 (fun h3 => ?_) (fun h3 => ?_)⟩
    · have n3 : (65 : Int) ≤ b := of_decide_eq_true h3
      refine ⟨_, _, rfl, rfl, ?_⟩
      have e : Cf.isLetI b = decide (b ≤ 90) := by
        unfold Cf.isLetI
        rw [decide_eq_true n3]
        simp
      rw [e] at k
      exact k
    · have n3 : ¬ (65 : Int) ≤ b := fun z => h3 (decide_eq_true z)
      have e : Cf.isLetI b = false := by
        unfold Cf.isLetI
        rw [decide_eq_false n3]
        simp
      rw [e] at k
      exact k
end
end S
end
section
set_option Elab.async false
set_option linter.all false
set_option maxRecDepth 100000
set_option maxHeartbeats 2000000
namespace S
open PySem PySem.Spec PyProof.Rows L2
-- needs:
section
variable {P : Program} {w : World} {K : PySem.W.Frag} {mg : Str → Option Value} {base : Heap} {A : Adr}
/-! ### cells -/
def allTo (w r : Nat) : List ClLat.Cell := (List.range r).flatMap fun (r : Nat) => (List.range w).map fun (c : Nat) => (r, c)
theorem allTo_succ (w r : Nat) : allTo w (r + 1) = allTo w r ++ (List.range w).map fun (c : Nat) => (r, c) := by
  unfold allTo
  rw [List.range_succ, List.flatMap_append]
  simp
theorem allTo_len (w r : Nat) : (allTo w r).length = r * w := by
  induction r with
  | zero => simp [allTo]
  | succ r ih => rw [allTo_succ, List.length_append, ih, List.length_map, List.length_range, Nat.succ_mul]
def sp_cells_of : Sp := fun vs H Q _ => ∃ (a : Addr) (R : List (List Int)) (w : Nat), vs = [.ref a] ∧ RowsAt H a R ∧ Cf.Rect R w ∧ ∀ H' p, Same H H' → H p = none → CellsAt H' p (Cf.gridOf R w).all → Q (.ref p) H'
theorem ok_cells_of (T : Txt K mg A) : FnOk P w K mg base CX0 1 A.a_cells_of A.d_cells_of ["rows"] sp_cells_of := by
  refine T.F_cells_of.ok sc_cells_of (fun vs H Q E h => ?_) (fun cdv Ar outer s H vs Q E hr h => ?_)
  · obtain ⟨a, R, w, rfl, _⟩ := h
    rfl
  · obtain ⟨a, R, w, rfl, hR, hRect, k⟩ := h
    obtain ⟨as, ha, hal⟩ := hR.ex
    have hlas := hal.length
    have r9 := hRect.r9
    have w9 := hRect.w9
    refine ⟨_, (pss_cons (ps_set (i := 1) sc_cells_of.nd rfl (Or.inl rfl) (pe_lst pa_nil))
  (pss_cons (ps_for PassesOwn.never rfl (pi_range1 rfl T.b_range (pa_cons (pe_callB call_len_seq rfl T.b_len PySem.boot_len (pa_cons (pv 0) pa_nil)) pa_nil)) (pg_name (i := 2) sc_cells_of.nd rfl (Or.inl rfl))
  (pss_one (ps_for PassesOwn.never rfl (pi_range1 rfl T.b_range (pa_cons (pe_callB call_len_seq rfl T.b_len PySem.boot_len (pa_cons (pe_ix ix_list (pv 0) (pv 2) (fun _ _ => rfl)) pa_nil)) pa_nil)) (pg_name (i := 3) sc_cells_of.nd rfl (Or.inl rfl))
  (pss_one (ps_expr (pe_bm PySem.F.plainAttrs_list PySem.F.slot_list_append PySem.F.type_list_append mt_append (pv 1) (pa_cons (pe_tup (pa_cons (pv 2) (pa_cons (pv 3) pa_nil))) pa_nil)))))))
  (pss_one (ps_ret (pv 1))))), ?_⟩
    refine ⟨Nat.zero_le _, fun l hl => ?_⟩
    have s0 : Same H (upd H l (.lst [])) := Same.upd hl
    refine ⟨_, rfl, a, _, rfl, .inl (SqL.of (s0 _ _ ha)), _, rfl, by omega, by rw [List.length_map]; omega, ?_⟩
    refine for_range (fun r σ H' => ∃ (bs : List Addr) (v2 v3 : Option V), σ = [some (.ref a), some (.ref l), v2, v3] ∧ Same H H' ∧ H' l = some (.lst (bs.map V.ref)) ∧ Al (fun p (x : ClLat.Cell) => PairAt H' p (Cf.cI x)) bs (allTo w r))
      ⟨[], none, none, rfl, s0, upd_same, Al.nil⟩ ?_ ?_
    · rintro r σ H1 hr ⟨bs, v2, v3, rfl, sm, hl1, hbs⟩
      have hr' : r < R.length := by rw [List.length_map] at hr; omega
      obtain ⟨row, er, hrow, _⟩ := hRect.row hr'
      obtain ⟨pr, epr, hpr⟩ := hal.get er
      refine ⟨_, rfl, _, rfl, a, _, _, V.ref pr, rfl, rfl, SqL.of (sm _ _ ha), at_of (j := r) (Int.zero_add _) (map_at epr), pr, _, rfl, .inl (SqL.of (sm _ _ hpr)), _, rfl, by omega, by rw [List.length_map]; omega, ?_⟩
      refine for_range (fun c σ H' => ∃ (bs : List Addr) (v3 : Option V), σ = [some (.ref a), some (.ref l), some (.int (0 + (r : Nat))), v3] ∧ Same H H' ∧ H' l = some (.lst (bs.map V.ref)) ∧ c ≤ w ∧ Al (fun p (x : ClLat.Cell) => PairAt H' p (Cf.cI x)) bs (allTo w r ++ (List.range c).map fun (c : Nat) => (r, c)))
        ⟨bs, v3, rfl, sm, hl1, Nat.zero_le _, by simpa using hbs⟩ ?_ ?_
      · rintro c σ H2 hc ⟨bs, v3, rfl, sm, hl2, _, hbs⟩
        have hc' : c < w := by rw [List.length_map, hrow] at hc; omega
        have hlb : bs.length ≤ 100 := by
          have e1 := hbs.length
          rw [List.length_append, allTo_len, List.length_map, List.length_range] at e1
          have : r * w ≤ 9 * 9 := Nat.mul_le_mul (by omega) (by omega)
          omega
        refine ⟨_, rfl, .inl ⟨rfl, _, SqL.of hl2⟩, _, rfl, _, rfl, by show 2 ≤ sizeLine; decide, fun p hp => ?_⟩
        have npl : l ≠ p := fun z => by rw [z, hp] at hl2; cases hl2
        have hl3 : (upd H2 p (.tup [.int (0 + (r : Nat)), .int (0 + (c : Nat))])) l = some (.lst (bs.map V.ref)) := by rw [upd_ne npl]; exact hl2
        have pH : H p = none := sm.free hp
        refine ⟨l, _, _, rfl, rfl, hl3, small (by rw [List.length_map]; omega), bs ++ [p], _, rfl, (sm.updR pH).updR hl, by rw [upd_same, List.map_append]; rfl, hc', ?_⟩
        rw [List.range_succ, List.map_append, ← List.append_assoc]
        refine Al.append (Al.cells_upd (Al.mono (fun q x hq => PairAt.same (Same.upd hp) hq) hbs) hl3) (Al.one (PairAt.upd ?_ hl3))
        show upd H2 p _ p = _
        rw [upd_same, Int.zero_add, Int.zero_add]
        rfl
      · rintro σ H2 ⟨bs, v3, rfl, sm, hl2, _, hbs⟩
        refine ⟨bs, _, _, rfl, sm, hl2, ?_⟩
        rw [allTo_succ]
        rw [List.length_map, hrow] at hbs
        exact hbs
    · rintro σ H1 ⟨bs, v2, v3, rfl, sm, hl1, hbs⟩
      refine ⟨_, rfl, k H1 l sm hl ⟨bs, hl1, ?_⟩⟩
      rw [List.length_map, hlas] at hbs
      exact hbs
def sp_is_white : Sp := fun vs H Q _ => ∃ (a p : Addr) (R : List (List Int)) (w : Nat) (x : Int × Int), vs = [.ref a, .ref p] ∧ RowsAt H a R ∧ Cf.Rect R w ∧ PairAt H p x ∧ Q (.bl (Cf.whiteI R x)) H
theorem ok_is_white (T : Txt K mg A) : FnOk P w K mg base CX0 1 A.a_is_white A.d_is_white ["rows", "cell"] sp_is_white := by
  refine T.F_is_white.ok sc_is_white (fun vs H Q E h => ?_) (fun cdv Ar outer s H vs Q E hr h => ?_)
  · obtain ⟨a, p, R, w, x, rfl, _⟩ := h
    rfl
  · obtain ⟨a, p, R, w, x, rfl, hR, hRect, hp, k⟩ := h
    obtain ⟨as, ha, hal⟩ := hR.ex
    have hlas := hal.length
    obtain ⟨r, c⟩ := x
    have hp' : H p = some (.tup [.int r, .int c]) := hp
    have no : ¬ (0 ≤ r ∧ r < R.length ∧ 0 ≤ c ∧ c < w) → Q (.bl false) H := fun z => by
      have e : Cf.whiteI R (r, c) = false := by
        unfold Cf.whiteI
        by_cases h1 : 0 ≤ r
        · by_cases h2 : 0 ≤ c
          · rw [Cf.isW_out hRect (by simp only; omega)]; simp
          · simp [h2]
        · simp [h1]
      rw [e] at k
      exact k
    refine ⟨_, (pss_cons (ps_if (PW.pt (pw_or (pt_cmpR op_lt (pe_ix ix_tup (pv 1) pe_int (fun _ _ => rfl)) pe_int (nomark _)) (pw_or1 (pt_cmpR op_ge (pe_ix ix_tup (pv 1) pe_int (fun _ _ => rfl)) (pe_callB call_len_seq rfl T.b_len PySem.boot_len (pa_cons (pv 0) pa_nil)) (nomark _))))) (pss_one (ps_ret pe_bl)) pss_nil)
  (pss_cons (ps_if (PW.pt (pw_or (pt_cmpR op_lt (pe_ix ix_tup (pv 1) pe_int (fun _ _ => rfl)) pe_int (nomark _)) (pw_or1 (pt_cmpR op_ge (pe_ix ix_tup (pv 1) pe_int (fun _ _ => rfl)) (pe_callB call_len_seq rfl T.b_len PySem.boot_len (pa_cons (pe_ix ix_list (pv 0) pe_int (fun _ _ => rfl)) pa_nil)) (nomark _))))) (pss_one (ps_ret pe_bl)) pss_nil)
  (pss_one (ps_ret (pe_cmpR op_ne (pe_ix ix_list (pe_ix ix_list (pv 0) (pe_ix ix_tup (pv 1) pe_int (fun _ _ => rfl)) (fun _ _ => rfl)) (pe_ix ix_tup (pv 1) pe_int (fun _ _ => rfl)) (fun _ _ => rfl)) (pe_globI rfl T.g_BLOCK) (nomark _)))))), ?_⟩
    refine ⟨_, rfl, p, _, _, _, rfl, rfl, SqT.of hp', rfl, _, _, rfl, rfl, _, rfl, ite2 (fun h => ?_) (fun h1 => ?_)⟩
    · have : r < 0 := of_decide_eq_true h
      exact no (by omega)
    have h1 : ¬ r < 0 := fun z => h1 (decide_eq_true z)
    refine ⟨_, rfl, p, _, _, _, rfl, rfl, SqT.of hp', rfl, _, rfl, a, _, rfl, .inl (SqL.of ha), _, _, rfl, rfl, _, rfl, ite2 (fun h => ?_) (fun h2 => ?_)⟩
    · have : ((as.map V.ref).length : Int) ≤ r := of_decide_eq_true h
      rw [List.length_map] at this
      exact no (by omega)
    have h2 : ¬ ((as.map V.ref).length : Int) ≤ r := fun z => h2 (decide_eq_true z)
    rw [List.length_map] at h2
    refine ⟨_, rfl, p, _, _, _, rfl, rfl, SqT.of hp', rfl, _, _, rfl, rfl, _, rfl, ite2 (fun h => ?_) (fun h3 => ?_)⟩
    · have : c < 0 := of_decide_eq_true h
      exact no (by omega)
    have h3 : ¬ c < 0 := fun z => h3 (decide_eq_true z)
    have hR2 := hRect.r2
    obtain ⟨row0, er0, hrow0, _⟩ := hRect.row (r := 0) (by omega)
    obtain ⟨p0, ep0, hp0⟩ := hal.get er0
    refine ⟨_, rfl, p, _, _, _, rfl, rfl, SqT.of hp', rfl, _, rfl, a, _, _, V.ref p0, rfl, rfl, SqL.of ha, at_of (j := 0) rfl (map_at ep0), p0, _, rfl, .inl (SqL.of hp0), _, _, rfl, rfl, _, rfl, ite2 (fun h => ?_) (fun h4 => ?_)⟩
    · have : ((row0.map V.int).length : Int) ≤ c := of_decide_eq_true h
      rw [List.length_map] at this
      exact no (by omega)
    have h4 : ¬ ((row0.map V.int).length : Int) ≤ c := fun z => h4 (decide_eq_true z)
    rw [List.length_map] at h4
    obtain ⟨row, b, er, eb, hrow, hb⟩ := hRect.at_ (r := r.toNat) (c := c.toNat) (by omega) (by omega)
    obtain ⟨pr, epr, hpr⟩ := hal.get er
    refine ⟨_, rfl, _, rfl, p, _, _, _, rfl, rfl, SqT.of hp', rfl, a, _, _, V.ref pr, rfl, rfl, SqL.of ha, at_of (j := r.toNat) (by omega) (map_at epr), _, rfl, p, _, _, _, rfl, rfl, SqT.of hp', rfl, pr, _, _, V.int b, rfl, rfl, SqL.of hpr, at_of (j := c.toNat) (by omega) (map_at eb), rfl, ?_⟩
    have e : Cf.whiteI R (r, c) = !decide (V.int b = V.int 35) := by
      unfold Cf.whiteI
      rw [Cf.isW_of hRect er eb, decide_eq_true (show 0 ≤ r by omega), decide_eq_true (show 0 ≤ c by omega)]
      simp
    rw [e] at k
    exact k
def sp_moved : Sp := fun vs H Q _ => ∃ (p : Addr) (x : Int × Int) (d t : Int), vs = [.ref p, .int d, .int t] ∧ PairAt H p x ∧ ∀ q H', Same H H' → H q = none → PairAt H' q (Cf.movedI x d t) → Q (.ref q) H'
theorem ok_moved (T : Txt K mg A) : FnOk P w K mg base CX0 1 A.a_moved A.d_moved ["cell", "way", "steps"] sp_moved := by
  refine T.F_moved.ok sc_moved (fun vs H Q E h => ?_) (fun cdv Ar outer s H vs Q E hr h => ?_)
  · obtain ⟨p, x, d, t, rfl, _⟩ := h
    rfl
  · obtain ⟨p, ⟨r, c⟩, d, t, rfl, hp, k⟩ := h
    have hp' : H p = some (.tup [.int r, .int c]) := hp
    refine ⟨_, (pss_cons (ps_if (pt_cmpR op_eq (pv 1) (pe_globI rfl T.g_ACROSS) (nomark _)) (pss_one (ps_ret (pe_tup (pa_cons (pe_ix ix_tup (pv 0) pe_int (fun _ _ => rfl)) (pa_cons (pe_op op_add (pe_ix ix_tup (pv 0) pe_int (fun _ _ => rfl)) (pv 2)) pa_nil))))) pss_nil)
  (pss_one (ps_ret (pe_tup (pa_cons (pe_op op_add (pe_ix ix_tup (pv 0) pe_int (fun _ _ => rfl)) (pv 2)) (pa_cons (pe_ix ix_tup (pv 0) pe_int (fun _ _ => rfl)) pa_nil)))))), ?_⟩
    refine ⟨_, rfl, rfl, _, rfl, ite2 (fun h => ?_) (fun h => ?_)⟩
    · have e0 : d = 0 := by simpa using h
      refine ⟨_, rfl, p, _, _, _, rfl, rfl, SqT.of hp', rfl, _, rfl, p, _, _, _, rfl, rfl, SqT.of hp', rfl, _, rfl, _, _, rfl, rfl, by show 2 ≤ sizeLine; decide, fun q hq => k q _ (Same.upd hq) hq ?_⟩
      show upd H q _ q = _
      rw [upd_same]
      unfold Cf.movedI
      rw [if_pos e0]
    · have e0 : ¬ d = 0 := by simpa using h
      refine ⟨_, rfl, p, _, _, _, rfl, rfl, SqT.of hp', rfl, _, rfl, _, _, rfl, rfl, _, rfl, p, _, _, _, rfl, rfl, SqT.of hp', rfl, by show 2 ≤ sizeLine; decide, fun q hq => k q _ (Same.upd hq) hq ?_⟩
      show upd H q _ q = _
      rw [upd_same]
      unfold Cf.movedI
      rw [if_neg e0]
end
end S
end
section
set_option Elab.async false
set_option linter.all false
set_option maxRecDepth 100000
set_option maxHeartbeats 2000000
namespace S
open PySem PySem.Spec PyProof.Rows L2
-- needs: cells
section
variable {P : Program} {w : World} {K : PySem.W.Frag} {mg : Str → Option Value} {base : Heap} {A : Adr}
/-! ### lights -/
def lf (n d : Int) (q : Addr) : List (Str × V) := putF "cells" (.ref q) (putF "way" (.int d) (putF "number" (.int n) []))
theorem lf_way (n d : Int) (q : Addr) : (lf n d q).lookup ("way" : Str) = some (.int d) := by
  unfold lf
  rw [lookup_putF, if_neg (by decide +kernel), lookup_putF, if_pos rfl]
theorem lf_cells (n d : Int) (q : Addr) : (lf n d q).lookup ("cells" : Str) = some (.ref q) := by
  unfold lf
  rw [lookup_putF, if_pos rfl]
structure LightAt (C : Addr) (H : Hp) (x : Addr) (l : ClLat.Light) : Prop where
  ex : ∃ dx q, H x = some (.ins C dx (lf (l.number : Nat) (l.dir : Nat) q)) ∧ CellsAt H q l.cells
theorem LightAt.same {C : Addr} {H H' : Hp} {x : Addr} {l : ClLat.Light} (s : Same H H') (h : LightAt C H x l) : LightAt C H' x l := by
  obtain ⟨dx, q, h1, h2⟩ := h.ex
  exact ⟨dx, q, s _ _ h1, h2.same s⟩
structure LightsAt (C : Addr) (H : Hp) (a : Addr) (ls : List ClLat.Light) : Prop where
  ex : ∃ as, H a = some (.lst (as.map V.ref)) ∧ Al (LightAt C H) as ls
theorem CellsAt.hid {H : Hp} {q l : Addr} {xs : List V} {cs : List ClLat.Cell} (h : CellsAt H q cs) (hl : H l = some (.lst xs)) (ne : q ≠ l) : CellsAt (Hid H l) q cs := by
  obtain ⟨as, h1, h2⟩ := h.ex
  exact ⟨as, by rw [Hid_ne ne]; exact h1, Al.mono (fun _ _ z => PairAt.hid z hl) h2⟩
def sp_Light_init (C : Addr) : Sp := fun vs H Q _ => ∃ (x dx : Addr) (n d : Int) (q : Addr), vs = [.ref x, .int n, .int d, .ref q] ∧ H x = some (.ins C dx []) ∧ ∀ H' : Hp, H' x = some (.ins C dx (lf n d q)) → (∀ b o, H b = some o → b ≠ x → H' b = some o) → Q .non H'
theorem ok_Light_init (T : Txt K mg A) : FnOk P w K mg base CX0 1 A.a_Light_init A.d_Light_init ["self", "number", "way", "cells"] (sp_Light_init A.c_Light) := by
  refine T.F_Light_init.ok sc_Light_init (fun vs H Q E h => ?_) (fun cdv Ar outer s H vs Q E hr h => ?_)
  · obtain ⟨x, dx, n, d, q, rfl, _⟩ := h
    rfl
  · obtain ⟨x, dx, n, d, q, rfl, hx, k⟩ := h
    refine ⟨_, (pss_cons (ps_fld (pv 0) (pv 1) rfl)
  (pss_cons (ps_fld (pv 0) (pv 2) rfl)
  (pss_one (ps_fld (pv 0) (pv 3) rfl)))), ?_⟩
    refine ⟨_, rfl, _, rfl, x, A.c_Light, dx, _, rfl, hx, T.cl_Light, T.n_Light_number, (by show 0 < 1000; decide), ?_⟩
    refine ⟨_, rfl, _, rfl, x, A.c_Light, dx, _, rfl, upd_same, T.cl_Light, T.n_Light_way, (by show 1 < 1000; decide), ?_⟩
    refine ⟨_, rfl, _, rfl, x, A.c_Light, dx, _, rfl, upd_same, T.cl_Light, T.n_Light_cells, ?_, ?_⟩
    · have h1 : (putF "number" (V.int n) []).length = 1 := rfl
      have h2 := length_putF "way" (V.int d) (putF "number" (V.int n) [])
      omega
    · exact k _ upd_same fun b o e hb => by rw [upd_ne hb, upd_ne hb, upd_ne hb]; exact e
def sp_begins_light : Sp := fun vs H Q _ => ∃ (a p : Addr) (R : List (List Int)) (w : Nat) (x : Int × Int) (d : Int), vs = [.ref a, .ref p, .int d] ∧ RowsAt H a R ∧ Cf.Rect R w ∧ PairAt H p x ∧ ∀ H', Same H H' → Q (.bl (Cf.beginsI R x d)) H'
theorem ok_begins_light (T : Txt K mg A) : FnOk P w K mg base CX0 2 A.a_begins_light A.d_begins_light ["rows", "cell", "way"] sp_begins_light := by
  refine T.F_begins_light.ok sc_begins_light (fun vs H Q E h => ?_) (fun cdv Ar outer s H vs Q E hr h => ?_)
  · obtain ⟨a, p, R, w, x, d, rfl, _⟩ := h
    rfl
  · obtain ⟨a, p, R, w, x, d, rfl, hR, hRect, hp, k⟩ := h
    refine ⟨_, (pss_cons (ps_if (pt_val (pe_call (ok_is_white T) (hr.mono (by decide)) rfl T.m_is_white T.F_is_white.kp T.bd_is_white .nil pass0 (pa_cons (pv 0) (pa_cons (pe_call (ok_moved T) (hr.mono (by decide)) rfl T.m_moved T.F_moved.kp T.bd_moved .nil pass0 (pa_cons (pv 1) (pa_cons (pv 2) (pa_cons (pe_un un_neg pe_int) pa_nil)))) pa_nil)))) (pss_one (ps_ret pe_bl)) pss_nil)
  (pss_one (ps_ret (pe_and (pe_call (ok_is_white T) (hr.mono (by decide)) rfl T.m_is_white T.F_is_white.kp T.bd_is_white .nil pass0 (pa_cons (pv 0) (pa_cons (pv 1) pa_nil))) (pe_one (pe_call (ok_is_white T) (hr.mono (by decide)) rfl T.m_is_white T.F_is_white.kp T.bd_is_white .nil pass0 (pa_cons (pv 0) (pa_cons (pe_call (ok_moved T) (hr.mono (by decide)) rfl T.m_moved T.F_moved.kp T.bd_moved .nil pass0 (pa_cons (pv 1) (pa_cons (pv 2) (pa_cons pe_int pa_nil)))) pa_nil)))))))), ?_⟩
    refine ⟨_, rfl, _, rfl, _, rfl, _, rfl, p, x, d, _, rfl, hp, fun q1 H1 s1 hq1 hp1 => ?_⟩
    refine ⟨a, q1, R, w, _, rfl, hR.same s1, hRect, hp1, _, rfl, ite2 (fun h => ?_) (fun h => ?_)⟩
    · have e : Cf.beginsI R x d = false := by unfold Cf.beginsI; rw [if_pos h]
      have kk := k _ s1
      rw [e] at kk
      exact kk
    · refine ⟨_, rfl, _, rfl, a, p, R, w, x, rfl, hR.same s1, hRect, hp.same s1, _, rfl, ite2 (fun h2 => ?_) (fun h2 => ?_)⟩
      · refine ⟨_, rfl, _, rfl, _, rfl, p, x, d, 1, rfl, hp.same s1, fun q2 H2 s2 hq2 hp2 => ?_⟩
        refine ⟨a, q2, R, w, _, rfl, hR.same (s1.trans s2), hRect, hp2, ?_⟩
        have e : Cf.beginsI R x d = Cf.whiteI R (Cf.movedI x d 1) := by unfold Cf.beginsI; rw [if_neg h, h2, Bool.true_and]
        have kk := k _ (s1.trans s2)
        rw [e] at kk
        exact kk
      · have e : Cf.beginsI R x d = false := by
          unfold Cf.beginsI
          rw [if_neg h, Bool.eq_false_iff.mpr h2]
          rfl
        have kk := k _ s1
        rw [e] at kk
        exact kk
def sp_white_run : Sp := fun vs H Q _ => ∃ (a p : Addr) (R : List (List Int)) (w : Nat) (x : ClLat.Cell) (d : Nat), vs = [.ref a, .ref p, .int (d : Nat)] ∧ RowsAt H a R ∧ Cf.Rect R w ∧ PairAt H p (Cf.cI x) ∧
  ∀ H' q, Same H H' → H q = none → CellsAt H' q ((List.range ((Cf.gridOf R w).run d x)).map (ClLat.on d x)) → Q (.ref q) H'
theorem ok_white_run (T : Txt K mg A) : FnOk P w K mg base CX0 2 A.a_white_run A.d_white_run ["rows", "start", "way"] sp_white_run := by
  refine T.F_white_run.ok sc_white_run (fun vs H Q E h => ?_) (fun cdv Ar outer s H vs Q E hr h => ?_)
  · obtain ⟨a, p, R, w, x, d, rfl, _⟩ := h
    rfl
  · obtain ⟨a, p, R, w, x, d, rfl, hR, hRect, hp, k⟩ := h
    refine ⟨_, (pss_cons (ps_set (i := 3) sc_white_run.nd rfl (Or.inl rfl) (pe_lst pa_nil))
  (pss_cons (ps_set (i := 4) sc_white_run.nd rfl (Or.inl rfl) (pv 1))
  (pss_cons (ps_while PassesOwn.never (pt_val (pe_call (ok_is_white T) (hr.mono (by decide)) rfl T.m_is_white T.F_is_white.kp T.bd_is_white .nil pass0 (pa_cons (pv 0) (pa_cons (pv 4) pa_nil)))) (pss_cons (ps_expr (pe_bm PySem.F.plainAttrs_list PySem.F.slot_list_append PySem.F.type_list_append mt_append (pv 3) (pa_cons (pv 4) pa_nil)))
  (pss_one (ps_set (i := 4) sc_white_run.nd rfl (Or.inl rfl) (pe_call (ok_moved T) (hr.mono (by decide)) rfl T.m_moved T.F_moved.kp T.bd_moved .nil pass0 (pa_cons (pv 4) (pa_cons (pv 2) (pa_cons pe_int pa_nil))))))))
  (pss_one (ps_ret (pv 3)))))), ?_⟩
    refine ⟨Nat.zero_le _, fun l hl => ⟨_, rfl, ?_⟩⟩
    have s0 : Same H (upd H l (.lst [])) := Same.upd hl
    refine ⟨fun m σ H' => ∃ (n : Nat) (bs : List Addr) (c : Addr), m = 10 - n ∧ n ≤ 9 ∧ σ = [some (.ref a), some (.ref p), some (.int (d : Nat)), some (.ref l), some (.ref c)] ∧ Same H H' ∧ H' l = some (.lst (bs.map V.ref)) ∧
        Al (fun p (x : ClLat.Cell) => PairAt H' p (Cf.cI x)) bs ((List.range n).map (ClLat.on d x)) ∧ PairAt H' c (Cf.cI (ClLat.on d x n)) ∧ ∀ j, j < n → (Cf.gridOf R w).white (ClLat.on d x j) = true,
      ⟨10, 0, [], p, rfl, by omega, rfl, s0, upd_same, Al.nil, by rw [Cf.on_zero]; exact hp.same s0, by omega⟩, ?_⟩
    rintro m σ H1 ⟨n, bs, c, rfl, hn, rfl, sm, hl1, hbs, hc, hw⟩
    refine ⟨_, rfl, _, rfl, a, c, R, w, _, rfl, hR.same sm, hRect, hc, _, rfl, ite2 (fun h => ?_) (fun h => ?_)⟩
    · rw [Cf.whiteI_eq hRect] at h
      have hn9 := Cf.on_small hRect d x h
      have hlb := hbs.length
      rw [List.length_map, List.length_range] at hlb
      refine ⟨fun σ' H' => ∃ (bs : List Addr) (c : Addr), σ' = [some (.ref a), some (.ref p), some (.int (d : Nat)), some (.ref l), some (.ref c)] ∧ Same H H' ∧ H' l = some (.lst (bs.map V.ref)) ∧
        Al (fun p (x : ClLat.Cell) => PairAt H' p (Cf.cI x)) bs ((List.range (n + 1)).map (ClLat.on d x)) ∧ PairAt H' c (Cf.cI (ClLat.on d x (n + 1))), fun σ' H' ⟨bs, c, h1, h2, h3, h4, h5⟩ => ⟨10 - (n + 1), by omega, n + 1, bs, c, rfl, hn9, h1, h2, h3, h4, h5, fun j hj => ?_⟩, ?_⟩
      · by_cases q : j = n
        · rw [q]; exact h
        · exact hw j (by omega)
      · refine ⟨_, rfl, .inl ⟨rfl, _, SqL.of hl1⟩, _, rfl, l, _, _, rfl, rfl, hl1, small (by rw [List.length_map]; omega), ?_⟩
        have hc2 := PairAt.upd (o := .lst ((bs.map V.ref) ++ [.ref c])) hc hl1
        refine ⟨_, rfl, _, rfl, c, _, _, _, rfl, hc2, fun q H2 s2 hq hp2 => ⟨bs ++ [c], q, rfl, ?_, ?_, ?_, ?_⟩⟩
        · exact (sm.updR hl).trans s2
        · refine s2 _ _ ?_
          rw [upd_same, List.map_append]; rfl
        · rw [List.range_succ, List.map_append]
          exact Al.mono (fun _ _ z => PairAt.same s2 z) (Al.append (Al.cells_upd hbs hl1) (Al.one hc2))
        · have e := Cf.moved_on (ClLat.on d x n) d 1
          have e2 : ClLat.on d (ClLat.on d x n) 1 = ClLat.on d x (n + 1) := by
            unfold ClLat.on
            split <;> simp <;> omega
          rw [e2] at e
          rw [← e]
          exact hp2
    · rw [Cf.whiteI_eq hRect] at h
      have e := Cf.run_is (Cf.gridOf R w) d x hn hw (Bool.eq_false_iff.mpr h)
      rw [e] at k
      exact ⟨_, rfl, k H1 l sm hl ⟨bs, hl1, hbs⟩⟩
end
end S
end
section
set_option Elab.async false
set_option linter.all false
set_option maxRecDepth 100000
set_option maxHeartbeats 2000000
namespace S
open PySem PySem.Spec PyProof.Rows L2
-- needs: runs
section
variable {P : Program} {w : World} {K : PySem.W.Frag} {mg : Str → Option Value} {base : Heap} {A : Adr}
def sp_lights_of (C : Addr) : Sp := fun vs H Q _ => ∃ (a : Addr) (R : List (List Int)) (w : Nat), vs = [.ref a] ∧ RowsAt H a R ∧ Cf.Rect R w ∧ ∀ H' p, Same H H' → H p = none → LightsAt C H' p (Cf.gridOf R w).lights → Q (.ref p) H'
theorem ways_take (g : ClLat.Grid) (x : ClLat.Cell) (i : Nat) {d : Nat} (h : ([0, 1] : List Nat)[i]? = some d) : (([0, 1] : List Nat).take (i + 1)).filter (fun d => g.begins d x) = (([0, 1] : List Nat).take i).filter (fun d => g.begins d x) ++ (if g.begins d x = true then [d] else []) := by
  rw [take_snoc h, List.filter_append]
  congr 1
  by_cases q : g.begins d x = true
  · rw [if_pos q]; simp [q]
  · rw [if_neg q]; simp [q]
/-- the lights so far -/
def LInv (C : Addr) (R : List (List Int)) (w : Nat) (H1 : Hp) (a l : Addr) (i : Nat) (σ : L2.St) (H' : Hp) : Prop := ∃ (bs : List Addr) (v3 v4 v5 : Option V), σ = [some (.ref a), some (.ref l), some (.int (Cf.countFrom (Cf.gridOf R w) ((Cf.gridOf R w).all.take i) : Nat)), v3, v4, v5] ∧
        H' l = some (.lst (bs.map V.ref)) ∧ Same (Hid H1 l) (Hid H' l) ∧ Al (LightAt C (Hid H' l)) bs (Cf.lightsFrom (Cf.gridOf R w) ((Cf.gridOf R w).all.take i))
def LInv2 (C : Addr) (R : List (List Int)) (w : Nat) (H3 : Hp) (a l cp D : Addr) (i : Nat) (x : ClLat.Cell) (j : Nat) (σ : L2.St) (H' : Hp) : Prop := ∃ (bs : List Addr) (v5 : Option V), σ = [some (.ref a), some (.ref l), some (.int (Cf.countFrom (Cf.gridOf R w) ((Cf.gridOf R w).all.take (i + 1)) : Nat)), some (.ref cp), some (.ref D), v5] ∧
              H' l = some (.lst (bs.map V.ref)) ∧ Same (Hid H3 l) (Hid H' l) ∧ Al (LightAt C (Hid H' l)) bs (Cf.lightsFrom (Cf.gridOf R w) ((Cf.gridOf R w).all.take i) ++ ((Cf.waysAt (Cf.gridOf R w) x).take j).map fun d => ⟨Cf.countFrom (Cf.gridOf R w) ((Cf.gridOf R w).all.take (i + 1)), d, x, (Cf.gridOf R w).run d x⟩)
theorem ok_lights_of (T : Txt K mg A) : FnOk P w K mg base CX0 3 A.a_lights_of A.d_lights_of ["rows"] (sp_lights_of A.c_Light) := by
  refine T.F_lights_of.ok sc_lights_of (fun vs H Q E h => ?_) (fun cdv Ar outer s H vs Q E hr h => ?_)
  · obtain ⟨a, R, w, rfl, _⟩ := h
    rfl
  · obtain ⟨a, R, w, rfl, hR, hRect, k⟩ := h
    refine ⟨_, (pss_cons (ps_set (i := 1) sc_lights_of.nd rfl (Or.inl rfl) (pe_lst pa_nil))
  (pss_cons (ps_set (i := 2) sc_lights_of.nd rfl (Or.inl rfl) pe_int)
  (pss_cons (ps_for PassesOwn.never rfl (pi_list (pe_call (ok_cells_of T) (hr.mono (by decide)) rfl T.m_cells_of T.F_cells_of.kp T.bd_cells_of .nil pass0 (pa_cons (pv 0) pa_nil))) (pg_name (i := 3) sc_lights_of.nd rfl (Or.inr rfl))
  (pss_cons (ps_setLc (i := 4) rfl sc_lights_of.nd rfl rfl (sw_true rfl rfl rfl rfl) (pi_tup (pe_tup (pa_cons (pe_globI rfl T.g_ACROSS) (pa_cons (pe_globI rfl T.g_DOWN) pa_nil)))) (blkOk_by (own := [("way", 5)]) (by show blkC ["rows", "lights", "number", "cell", "ways", "way"] (defScope s_lights_of) _ _ = true; decide +kernel)) (fun _ _ _ _ _ => (pg_name (i := 5) sc_lights_of.nd rfl (Or.inl rfl))) (fun _ _ _ _ _ => (pts_one (pt_val (pe_call (ok_begins_light T) (hr.mono (by decide)) rfl T.m_begins_light T.F_begins_light.kp T.bd_begins_light .nil pass0 (pa_cons (pv 0) (pa_cons (pv 3) (pa_cons (pv 5) pa_nil))))))) (fun _ _ _ _ _ => (pv 5)))
  (pss_cons (ps_if (pt_cmpR op_gt (pe_callB call_len_seq rfl T.b_len PySem.boot_len (pa_cons (pv 4) pa_nil)) pe_int (nomark _)) (pss_one (ps_set (i := 2) sc_lights_of.nd rfl (Or.inl rfl) (pe_op op_add (pv 2) pe_int))) pss_nil)
  (pss_one (ps_for PassesOwn.never rfl (pi_list (pv 4)) (pg_name (i := 5) sc_lights_of.nd rfl (Or.inl rfl))
  (pss_one (ps_expr (pe_bm PySem.F.plainAttrs_list PySem.F.slot_list_append PySem.F.type_list_append mt_append (pv 1) (pa_cons (pe_make T.mk_Light (ok_Light_init T) (hr.mono (by decide)) rfl T.m_Light T.bd_Light_init .nil pass0 (pa_cons (pv 2) (pa_cons (pv 5) (pa_cons (pe_call (ok_white_run T) (hr.mono (by decide)) rfl T.m_white_run T.F_white_run.kp T.bd_white_run .nil pass0 (pa_cons (pv 0) (pa_cons (pv 3) (pa_cons (pv 5) pa_nil)))) pa_nil)))) pa_nil)))))))))
  (pss_one (ps_ret (pv 1)))))), ?_⟩
    refine ⟨Nat.zero_le _, fun l hl => ?_⟩
    have s0 : Same H (upd H l (.lst [])) := Same.upd hl
    refine ⟨_, rfl, a, R, w, rfl, hR.same s0, hRect, fun H1 pc s1 hpc hcs => ?_⟩
    obtain ⟨cs, hpc1, hcs⟩ := hcs.ex
    have npc : pc ≠ l := fun z => by rw [z, upd_same] at hpc; cases hpc
    have hl1 : H1 l = some (.lst []) := s1 _ _ upd_same
    have sH1 : Same H H1 := s0.trans s1
    -- what is known without the list that grows
    have kpc : (Hid H1 l) pc = some (.lst (cs.map V.ref)) := by rw [Hid_ne npc]; exact hpc1
    have kcs : Al (fun p (x : ClLat.Cell) => PairAt (Hid H1 l) p (Cf.cI x)) cs (Cf.gridOf R w).all := Al.mono (fun _ _ z => PairAt.hid z hl1) hcs
    have kH : Same H (Hid H1 l) := sH1.toHid hl
    refine ⟨pc, rfl, ⟨_, SqL.of hpc1⟩, for_list (K := K) (a := pc) (xs := cs.map V.ref) (LInv A.c_Light R w H1 a l)
      ⟨[], none, none, none, rfl, hl1, Same.refl _, Al.nil⟩ (fun i σ H' _ ⟨_, _, _, _, _, _, s5, _⟩ => SqL.of (Hid.same _ _ (s5 _ _ kpc))) ?_ ?_⟩
    · rintro i y σ H2 hi ⟨bs, v3, v4, v5, rfl, hl2, s2, hbs⟩
      obtain ⟨cp, hcp, rfl⟩ := refs_get hi
      obtain ⟨x, hx, hpx⟩ := kcs.at_ hcp
      have s2' : Same (Hid H1 l) H2 := s2.trans Hid.same
      have hR2 : RowsAt H2 a R := hR.same (kH.trans s2')
      have hp2 : PairAt H2 cp (Cf.cI x) := hpx.same s2'
      -- ways = [..]
      refine ⟨by show 2 ≤ sizeLine; decide, fun tp htp => ⟨tp, rfl, ⟨_, SqT.of upd_same⟩, fun D hD => ?_⟩⟩
      have st : Same H2 (upd H2 tp (.tup [.int 0, .int 1])) := Same.upd htp
      have hD2 : H2 D = none := st.free hD
      refine lc_tup (K := K) (a := tp) (xs := [.int 0, .int 1]) (fun i H' => Same (upd H2 tp (.tup [.int 0, .int 1])) H' ∧ H' D = some (.lst (((([0, 1] : List Nat).take i).filter fun d => (Cf.gridOf R w).begins d x).map fun d => V.int (d : Nat))))
        ⟨Same.upd hD, upd_same⟩ (fun i H' _ ⟨q, _⟩ => SqT.of (q _ _ upd_same)) ?_ ?_
      · rintro i y H' hy ⟨sq, hD'⟩
        obtain ⟨d, hd, rfl⟩ : ∃ d : Nat, ([0, 1] : List Nat)[i]? = some d ∧ y = .int (d : Nat) := by
          match i, hy with
          | 0, hy => exact ⟨0, rfl, (Option.some.inj hy).symm⟩
          | 1, hy => exact ⟨1, rfl, (Option.some.inj hy).symm⟩
          | n + 2, hy => simp at hy
        have sq2 : Same H2 H' := st.trans sq
        refine ⟨rfl, _, rfl, _, rfl, _, rfl, a, cp, R, w, _, (d : Nat), rfl, hR2.same sq2, hRect, hp2.same sq2, fun H3 s3 => ⟨_, rfl, ite2 (fun h => ?_) (fun h => ?_)⟩⟩
        · rw [Cf.begins_eq hRect] at h
          refine ⟨_, rfl, _, s3 _ _ hD', small ?_, ?_, ?_⟩
          · rw [List.length_map]
            exact Nat.le_trans (List.length_filter_le _ _) (by rw [List.length_take]; show min i 2 ≤ _; omega)
          · exact Same.updR (sq.trans s3) hD
          · rw [upd_same, ways_take _ _ _ hd, if_pos h, List.map_append]
            rfl
        · rw [Cf.begins_eq hRect] at h
          refine ⟨sq.trans s3, ?_⟩
          rw [ways_take _ _ _ hd, if_neg h, List.append_nil]
          exact s3 _ _ hD'
      · rintro H3 ⟨sq, hD3⟩
        have hD3 : H3 D = some (.lst ((Cf.waysAt (Cf.gridOf R w) x).map fun d => V.int (d : Nat))) := hD3
        have sq2 : Same H2 H3 := st.trans sq
        have hl3 : H3 l = some (.lst (bs.map V.ref)) := sq2 _ _ hl2
        have nDl : D ≠ l := fun z => by rw [z, hl2] at hD2; cases hD2
        have ec := Cf.count_snoc (Cf.gridOf R w) ((Cf.gridOf R w).all.take i) x
        rw [← take_snoc hx] at ec
        have el := Cf.lights_snoc (Cf.gridOf R w) ((Cf.gridOf R w).all.take i) x
        rw [← take_snoc hx] at el
        have hsm : Cf.countFrom (Cf.gridOf R w) ((Cf.gridOf R w).all.take (i + 1)) = Cf.countFrom (Cf.gridOf R w) ((Cf.gridOf R w).all.take (i + 1)) := rfl
        refine ⟨_, rfl, D, _, rfl, .inl (SqL.of hD3), _, _, rfl, rfl, _, rfl, ite2 (fun h => ?g1) (fun h => ?g2)⟩
        case' g1 =>
          have h : (0 : Int) < (((Cf.waysAt (Cf.gridOf R w) x).map fun d => V.int (d : Nat)).length : Int) := of_decide_eq_true h
          rw [List.length_map] at h
          rw [if_pos (by omega)] at ec
          refine ⟨_, rfl, _, _, rfl, rfl, ?_⟩
          have hz : ((Cf.countFrom (Cf.gridOf R w) ((Cf.gridOf R w).all.take i) : Nat) : Int) + 1 = (Cf.countFrom (Cf.gridOf R w) ((Cf.gridOf R w).all.take (i + 1)) : Nat) := by omega
        case' g2 =>
          have h : ¬ (0 : Int) < (((Cf.waysAt (Cf.gridOf R w) x).map fun d => V.int (d : Nat)).length : Int) := fun z => h (decide_eq_true z)
          rw [List.length_map] at h
          rw [if_neg (by omega)] at ec
          have hz : Cf.countFrom (Cf.gridOf R w) ((Cf.gridOf R w).all.take i) = Cf.countFrom (Cf.gridOf R w) ((Cf.gridOf R w).all.take (i + 1)) := by omega
        all_goals
          refine ⟨_, rfl, D, rfl, ⟨_, SqL.of hD3⟩, for_list (K := K) (a := D) (xs := (Cf.waysAt (Cf.gridOf R w) x).map fun d => V.int (d : Nat)) (LInv2 A.c_Light R w H3 a l cp D i x)
            ⟨bs, v5, (by rw [← hz]; rfl), hl3, Same.refl _, by rw [List.take_zero, List.map_nil, List.append_nil]; exact Al.mono (fun _ _ z => z.same sq2.hid) hbs⟩ (fun j σ H' _ ⟨_, _, _, _, s5, _⟩ => SqL.of (Hid.same _ _ (s5 _ _ (by rw [Hid_ne nDl]; exact hD3)))) ?_ ?_⟩
        all_goals first
          | (rintro j y σ H4 hj ⟨bs, v5, rfl, hl4, s4, hbs⟩
             obtain ⟨d, hd, rfl⟩ : ∃ d : Nat, (Cf.waysAt (Cf.gridOf R w) x)[j]? = some d ∧ y = .int (d : Nat) := by
               rw [List.getElem?_map] at hj
               cases e : (Cf.waysAt (Cf.gridOf R w) x)[j]? with
               | none => rw [e] at hj; cases hj
               | some d => rw [e] at hj; exact ⟨d, rfl, (Option.some.inj hj).symm⟩
             have s34 : Same (Hid H1 l) (Hid H4 l) := (s2.trans sq2.hid).trans s4
             have s34' : Same (Hid H1 l) H4 := s34.trans Hid.same
             refine ⟨_, rfl, .inl ⟨rfl, _, SqL.of hl4⟩, _, rfl, _, rfl, _, rfl, _, rfl, _, rfl, a, cp, R, w, x, d, rfl, hR.same (kH.trans s34'), hRect, hpx.same s34', fun H5 q s5 hq hcells => fun xn dx nx ndx nex => ?_⟩
             refine ⟨xn, dx, _, _, q, rfl, upd_same, fun H6 h6 keep => ⟨rfl, ?_⟩⟩
             have s56 : Same H5 H6 := Same.made nx ndx keep
             have s46 : Same H4 H6 := s5.trans s56
             have hl6 : H6 l = some (.lst (bs.map V.ref)) := s46 _ _ hl4
             have nql : q ≠ l := fun z => by rw [z, hl4] at hq; cases hq
             have nxl : xn ≠ l := fun z => by rw [z, s5 _ _ hl4] at nx; cases nx
             have hlen : bs.length ≤ 1000 := by
               have e1 := hbs.length
               rw [List.length_append, List.length_map, List.length_take] at e1
               have e2 : (Cf.lightsFrom (Cf.gridOf R w) ((Cf.gridOf R w).all.take i)).length ≤ (Cf.gridOf R w).lights.length := by
                 have e3 := Cf.lights_take (Cf.gridOf R w) (Cf.gridOf R w).all i
                 rw [Cf.lights_from]
                 exact e3
               have e4 := Cf.lights_count hRect
               have e5 : (Cf.waysAt (Cf.gridOf R w) x).length ≤ 2 := List.length_filter_le _ _
               omega
             refine ⟨l, _, _, rfl, rfl, hl6, small (by rw [List.length_map]; omega), bs ++ [xn], _, rfl, by rw [upd_same, List.map_append]; rfl, ?_, ?_⟩
             · rw [Hid_upd]
               exact s4.trans s46.hid
             · rw [Hid_upd, take_snoc hd, List.map_append, ← List.append_assoc]
               refine Al.append (Al.mono (fun _ _ z => z.same s46.hid) hbs) (Al.one ⟨dx, q, by rw [Hid_ne nxl]; exact h6, ?_⟩)
               exact CellsAt.hid (hcells.same s56) hl6 nql)
          | (rintro σ H4 ⟨bs, v5, rfl, hl4, s4, hbs⟩
             rw [List.length_map, List.take_length, ← el] at hbs
             exact ⟨bs, _, _, _, rfl, hl4, (s2.trans sq2.hid).trans s4, hbs⟩)
    · rintro σ H2 ⟨bs, v3, v4, v5, rfl, hl2, s2, hbs⟩
      rw [List.length_map, kcs.length, List.take_length] at hbs
      refine ⟨_, rfl, k H2 l ((kH.trans s2).trans Hid.same) hl ⟨bs, hl2, ?_⟩⟩
      rw [Cf.lights_from]
      exact Al.mono (fun _ _ z => z.same Hid.same) hbs
end
end S
end
section
set_option Elab.async false
set_option linter.all false
set_option maxRecDepth 100000
set_option maxHeartbeats 2000000
namespace S
open PySem PySem.Spec PyProof.Rows L2
-- needs: runs
-- plain: CfRules CfM5
section
variable {P : Program} {w : World} {K : PySem.W.Frag} {mg : Str → Option Value} {base : Heap} {A : Adr}
/-- None, or a new tuple of the two places -/
def PlacesQ (o : Option (Nat × Nat)) (H : Hp) (Q : VK) : Prop := match o with
  | none => ∀ H', Same H H' → Q .non H'
  | some z => ∀ H' p, Same H H' → H p = none → H' p = some (.tup [.int (z.1 : Nat), .int (z.2 : Nat)]) → Q (.ref p) H'
def sp_crossing (C : Addr) : Sp := fun vs H Q _ => ∃ (x y : Addr) (l m : ClLat.Light), vs = [.ref x, .ref y] ∧ LightAt C H x l ∧ LightAt C H y m ∧ PlacesQ (ClLat.crossing l m) H Q
theorem ok_crossing (T : Txt K mg A) : FnOk P w K mg base CX0 1 A.a_crossing A.d_crossing ["light", "other"] (sp_crossing A.c_Light) := by
  refine T.F_crossing.ok sc_crossing (fun vs H Q E h => ?_) (fun cdv Ar outer s H vs Q E hr h => ?_)
  · obtain ⟨x, y, l, m, rfl, _⟩ := h
    rfl
  · obtain ⟨x, y, l, m, rfl, hx, hy, k⟩ := h
    obtain ⟨dx, q, hx1, hxc⟩ := hx.ex
    obtain ⟨dy, q2, hy1, hyc⟩ := hy.ex
    refine ⟨_, (pss_cons (ps_if (pt_cmpR op_eq (pe_fld (pv 0) rfl) (pe_fld (pv 1) rfl) (nomark _)) (pss_one (ps_ret pe_non)) pss_nil)
  (pss_cons (ps_for PassesOwn.never rfl (pi_enum rfl T.b_enumerate (pa_cons (pe_fld (pv 0) rfl) pa_nil)) (pg_tup rfl (pgs_cons (pg_name (i := 2) sc_crossing.nd rfl (Or.inl rfl)) (pgs_cons (pg_name (i := 3) sc_crossing.nd rfl (Or.inl rfl)) pgs_nil)))
  (pss_one (ps_if (pt_cmpR (op_in_cells hr.units) (pv 3) (pe_fld (pv 1) rfl) (by with_unfolding_all rfl)) (pss_one (ps_ret (pe_tup (pa_cons (pv 2) (pa_cons (pe_bm PySem.F.plainAttrs_list PySem.F.slot_list_index PySem.F.type_list_index (mt_index_cells hr.units) (pe_fld (pv 1) rfl) (pa_cons (pv 3) pa_nil)) pa_nil))))) pss_nil)))
  (pss_one (ps_ret pe_non)))), ?_⟩
    refine ⟨_, rfl, x, A.c_Light, dx, _, _, rfl, hx1, T.cl_Light, T.n_Light_way, lf_way _ _ _, _, rfl, y, A.c_Light, dy, _, _, rfl, hy1, T.cl_Light, T.n_Light_way, lf_way _ _ _, rfl, _, rfl, ite2 (fun h => ?_) (fun h => ?_)⟩
    · have e : l.dir = m.dir := by
        have : (l.dir : Int) = m.dir := by simpa using h
        omega
      have e2 : ClLat.crossing l m = none := by rw [Cf.crossing_eq, if_pos e]
      rw [e2] at k
      exact k H (Same.refl _)
    · have e : ¬ l.dir = m.dir := by
        have : ¬ (l.dir : Int) = m.dir := by simpa using h
        omega
      have ec : ClLat.crossing l m = l.cells.zipIdx.findSome? (Cf.crossF m.cells) := by rw [Cf.crossing_eq, if_neg e]
      obtain ⟨cs, hq, hcs⟩ := hxc.ex
      refine ⟨_, rfl, x, A.c_Light, dx, _, _, rfl, hx1, T.cl_Light, T.n_Light_cells, lf_cells _ _ _, q, _, rfl, SqL.of hq, for_enum (K := K) (a := q) (xs := cs.map V.ref) (fun i σ H' => ∃ (v2 v3 : Option V), σ = [some (.ref x), some (.ref y), v2, v3] ∧ Same H H' ∧ l.cells.zipIdx.findSome? (Cf.crossF m.cells) = (l.cells.zipIdx.drop i).findSome? (Cf.crossF m.cells))
        ⟨none, none, rfl, Same.refl _, rfl⟩ (fun i σ H' _ ⟨_, _, _, s5, _⟩ => SqL.of (s5 _ _ hq)) ?_ ?_⟩
      · rintro i v σ H' Tp hi ⟨v2, v3, rfl, sm, ef⟩ hT
        obtain ⟨cp, hcp, rfl⟩ := refs_get hi
        obtain ⟨c, hc, hpair⟩ := hcs.at_ hcp
        have sm2 : Same H (upd H' Tp (.tup [.int (i : Nat), .ref cp])) := sm.trans (Same.upd hT)
        rw [Cf.zip_drop hc, List.findSome?_cons] at ef
        refine ⟨Tp, _, rfl, SqT.of upd_same, rfl, _, _, rfl, _, _, rfl, rfl, ?_⟩
        refine ⟨_, rfl, _, rfl, y, A.c_Light, dy, _, _, rfl, sm2 _ _ hy1, T.cl_Light, T.n_Light_cells, lf_cells _ _ _, cp, q2, _, c, rfl, rfl, hyc.same sm2, hpair.same sm2, _, rfl, ite2 (fun h => ?_) (fun h => ?_)⟩
        · have hin : c ∈ m.cells := of_decide_eq_true h
          obtain ⟨j, hj, hj2, hj3⟩ := Cf.find_in hin
          have ef2 : Cf.crossF m.cells (c, i) = some (i, j) := by unfold Cf.crossF; rw [hj]; rfl
          rw [ef2] at ef
          obtain ⟨qs, hqs, _⟩ := hyc.ex
          refine ⟨_, rfl, _, rfl, y, A.c_Light, dy, _, _, rfl, sm2 _ _ hy1, T.cl_Light, T.n_Light_cells, lf_cells _ _ _, .inl ⟨rfl, _, SqL.of (sm2 _ _ hqs)⟩, _, rfl, cp, q2, _, c, j, rfl, rfl, hyc.same sm2, hpair.same sm2, hj2, hj3, by show 2 ≤ sizeLine; decide, fun p hp => ?_⟩
          rw [ec, ef] at k
          exact k _ p (sm2.trans (Same.upd hp)) (sm2.free hp) upd_same
        · have hin : c ∉ m.cells := fun z => h (decide_eq_true z)
          have ef2 : Cf.crossF m.cells (c, i) = none := by unfold Cf.crossF; rw [Cf.find_out hin]; rfl
          rw [ef2] at ef
          exact ⟨_, _, rfl, sm2, ef⟩
      · rintro σ H' ⟨v2, v3, rfl, sm, ef⟩
        have hlen := hcs.length
        rw [List.drop_eq_nil_of_le (by rw [List.length_zipIdx, List.length_map]; omega)] at ef
        rw [ec, ef] at k
        exact k _ sm
end
end S
end
section
set_option Elab.async false
set_option linter.all false
set_option maxRecDepth 100000
set_option maxHeartbeats 2000000
namespace S
open PySem PySem.Spec PyProof.Rows L2
-- needs: letter lightsof crossing
-- plain: CfM8
section
variable {P : Program} {w : World} {K : PySem.W.Frag} {mg : Str → Option Value} {base : Heap} {A : Adr}
def sf (q1 q2 q3 : Addr) : List (Str × V) := putF "crossings" (.ref q3) (putF "locked" (.ref q2) (putF "cells" (.ref q1) []))
theorem sf_cells (q1 q2 q3 : Addr) : (sf q1 q2 q3).lookup ("cells" : Str) = some (.ref q1) := by
  unfold sf
  rw [lookup_putF, if_neg (by decide +kernel), lookup_putF, if_neg (by decide +kernel), lookup_putF, if_pos rfl]
theorem sf_locked (q1 q2 q3 : Addr) : (sf q1 q2 q3).lookup ("locked" : Str) = some (.ref q2) := by
  unfold sf
  rw [lookup_putF, if_neg (by decide +kernel), lookup_putF, if_pos rfl]
theorem sf_crossings (q1 q2 q3 : Addr) : (sf q1 q2 q3).lookup ("crossings" : Str) = some (.ref q3) := by
  unfold sf
  rw [lookup_putF, if_pos rfl]
def lkI (l : List (Nat × Int)) : List (Int × Int) := l.map fun y => ((y.1 : Nat), y.2)
structure SlotAt (C : Addr) (H : Hp) (x : Addr) (s : Cf.SlotD) : Prop where
  ex : ∃ dx q1 q2 q3, H x = some (.ins C dx (sf q1 q2 q3)) ∧ CellsAt H q1 s.cells ∧ PairsAt H q2 (lkI s.lk) ∧ TripsAt H q3 s.cr
theorem SlotAt.same {C : Addr} {H H' : Hp} {x : Addr} {l : Cf.SlotD} (s : Same H H') (h : SlotAt C H x l) : SlotAt C H' x l := by
  obtain ⟨dx, q1, q2, q3, h1, h2, h3, h4⟩ := h.ex
  exact ⟨dx, q1, q2, q3, s _ _ h1, h2.same s, h3.same s, h4.same s⟩
structure SlotsAt (C : Addr) (H : Hp) (a : Addr) (ls : List Cf.SlotD) : Prop where
  ex : ∃ as, H a = some (.lst (as.map V.ref)) ∧ Al (SlotAt C H) as ls
theorem SlotsAt.same {C : Addr} {H H' : Hp} {x : Addr} {ls : List Cf.SlotD} (s : Same H H') (h : SlotsAt C H x ls) : SlotsAt C H' x ls := by
  obtain ⟨as, h1, h2⟩ := h.ex
  exact ⟨as, s _ _ h1, Al.mono (fun _ _ q => q.same s) h2⟩
def sp_Slot_init (C : Addr) : Sp := fun vs H Q _ => ∃ (x dx q1 q2 q3 : Addr), vs = [.ref x, .ref q1, .ref q2, .ref q3] ∧ H x = some (.ins C dx []) ∧ ∀ H' : Hp, H' x = some (.ins C dx (sf q1 q2 q3)) → (∀ b o, H b = some o → b ≠ x → H' b = some o) → Q .non H'
theorem ok_Slot_init (T : Txt K mg A) : FnOk P w K mg base CX0 1 A.a_Slot_init A.d_Slot_init ["self", "cells", "locked", "crossings"] (sp_Slot_init A.c_Slot) := by
  refine T.F_Slot_init.ok sc_Slot_init (fun vs H Q E h => ?_) (fun cdv Ar outer s H vs Q E hr h => ?_)
  · obtain ⟨x, dx, q1, q2, q3, rfl, _⟩ := h
    rfl
  · obtain ⟨x, dx, q1, q2, q3, rfl, hx, k⟩ := h
    refine ⟨_, (pss_cons (ps_fld (pv 0) (pv 1) rfl)
  (pss_cons (ps_fld (pv 0) (pv 2) rfl)
  (pss_one (ps_fld (pv 0) (pv 3) rfl)))), ?_⟩
    refine ⟨_, rfl, _, rfl, x, A.c_Slot, dx, _, rfl, hx, T.cl_Slot, T.n_Slot_cells, (by show 0 < 1000; decide), ?_⟩
    refine ⟨_, rfl, _, rfl, x, A.c_Slot, dx, _, rfl, upd_same, T.cl_Slot, T.n_Slot_locked, (by show 1 < 1000; decide), ?_⟩
    refine ⟨_, rfl, _, rfl, x, A.c_Slot, dx, _, rfl, upd_same, T.cl_Slot, T.n_Slot_crossings, ?_, ?_⟩
    · have h1 : (putF "cells" (V.ref q1) []).length = 1 := rfl
      have h2 := length_putF "locked" (V.ref q2) (putF "cells" (V.ref q1) [])
      omega
    · exact k _ upd_same fun b o e hb => by rw [upd_ne hb, upd_ne hb, upd_ne hb]; exact e
theorem fm_take {α β : Type} (f : α × Nat → Option β) (l : List α) {i : Nat} {x : α} (h : l[i]? = some x) : (l.zipIdx.take (i + 1)).filterMap f = (l.zipIdx.take i).filterMap f ++ (f (x, i)).toList := by
  have hz : l.zipIdx[i]? = some (x, i) := by simp [h]
  rw [take_snoc hz, List.filterMap_append]
  congr 1
theorem lkI_app (a b : List (Nat × Int)) : lkI (a ++ b) = lkI a ++ lkI b := by unfold lkI; rw [List.map_append]
def sp_locked_letters (C : Addr) : Sp := fun vs H Q _ => ∃ (a x : Addr) (R : List (List Int)) (w : Nat) (l : ClLat.Light), vs = [.ref a, .ref x] ∧ RowsAt H a R ∧ Cf.Rect R w ∧ LightAt C H x l ∧ l ∈ (Cf.gridOf R w).lights ∧ ∀ H' p, Same H H' → H p = none → PairsAt H' p (lkI (Cf.lockedM R l.cells)) → Q (.ref p) H'
theorem ok_locked_letters (T : Txt K mg A) : FnOk P w K mg base CX0 2 A.a_locked_letters A.d_locked_letters ["rows", "light"] (sp_locked_letters A.c_Light) := by
  refine T.F_locked_letters.ok sc_locked_letters (fun vs H Q E h => ?_) (fun cdv Ar outer s H vs Q E hr h => ?_)
  · obtain ⟨a, x, R, w, l, rfl, _⟩ := h
    rfl
  · obtain ⟨a, x, R, w, l, rfl, hR, hRect, hx, hl, k⟩ := h
    obtain ⟨as, ha, hal⟩ := hR.ex
    obtain ⟨dx, q, hx1, hxc⟩ := hx.ex
    obtain ⟨cs, hq, hcs⟩ := hxc.ex
    have hl9 := (Cf.lights_len hRect l hl).2
    have hcl : l.cells.length = l.length := by unfold ClLat.Light.cells; rw [List.length_map, List.length_range]
    have hlen := hcs.length
    refine ⟨_, (pss_cons (ps_set (i := 2) sc_locked_letters.nd rfl (Or.inl rfl) (pe_lst pa_nil))
  (pss_cons (ps_for PassesOwn.never rfl (pi_enum rfl T.b_enumerate (pa_cons (pe_fld (pv 1) rfl) pa_nil)) (pg_tup rfl (pgs_cons (pg_name (i := 3) sc_locked_letters.nd rfl (Or.inl rfl)) (pgs_cons (pg_name (i := 4) sc_locked_letters.nd rfl (Or.inl rfl)) pgs_nil)))
  (pss_cons (ps_set (i := 5) sc_locked_letters.nd rfl (Or.inl rfl) (pe_ix ix_list (pe_ix ix_list (pv 0) (pe_ix ix_tup (pv 4) pe_int (fun _ _ => rfl)) (fun _ _ => rfl)) (pe_ix ix_tup (pv 4) pe_int (fun _ _ => rfl)) (fun _ _ => rfl)))
  (pss_one (ps_if (pt_val (pe_call (ok_is_letter T) (hr.mono (by decide)) rfl T.m_is_letter T.F_is_letter.kp T.bd_is_letter .nil pass0 (pa_cons (pv 5) pa_nil))) (pss_one (ps_expr (pe_bm PySem.F.plainAttrs_list PySem.F.slot_list_append PySem.F.type_list_append mt_append (pv 2) (pa_cons (pe_tup (pa_cons (pv 3) (pa_cons (pv 5) pa_nil))) pa_nil)))) pss_nil))))
  (pss_one (ps_ret (pv 2))))), ?_⟩
    refine ⟨Nat.zero_le _, fun lk hlk => ?_⟩
    have s0 : Same H (upd H lk (.lst [])) := Same.upd hlk
    refine ⟨_, rfl, x, A.c_Light, dx, _, _, rfl, s0 _ _ hx1, T.cl_Light, T.n_Light_cells, lf_cells _ _ _, q, _, rfl, SqL.of (s0 _ _ hq), for_enum (K := K) (a := q) (xs := cs.map V.ref) (fun i σ H' => ∃ (v3 v4 v5 : Option V) (bs : List Addr), σ = [some (.ref a), some (.ref x), some (.ref lk), v3, v4, v5] ∧ Same H H' ∧ H' lk = some (.lst (bs.map V.ref)) ∧ Al (PairAt H') bs (lkI ((l.cells.zipIdx.take i).filterMap (Cf.lockF R))))
      ⟨none, none, none, [], rfl, s0, upd_same, trivial⟩ (fun i σ H' _ ⟨_, _, _, _, _, s5, _⟩ => SqL.of (s5 _ _ hq)) ?_ ?_⟩
    · rintro i v σ H' Tp hi ⟨v3, v4, v5, bs, rfl, sm, hlk1, hbs⟩ hT
      obtain ⟨cp, hcp, rfl⟩ := refs_get hi
      obtain ⟨c, hc, hpair⟩ := hcs.at_ hcp
      have hic : i < l.cells.length := (List.getElem?_eq_some_iff.mp hc).1
      have sT := Same.upd (o := .tup [.int (i : Nat), .ref cp]) hT
      have sm2 : Same H (upd H' Tp (.tup [.int (i : Nat), .ref cp])) := sm.trans sT
      have hp2 : (upd H' Tp (.tup [.int (i : Nat), .ref cp])) cp = some (.tup [.int (c.1 : Nat), .int (c.2 : Nat)]) := hpair.same sm2
      obtain ⟨row, er, eb⟩ := Cf.byte_at hRect (Cf.light_white hRect hl c (List.mem_of_getElem? hc))
      obtain ⟨pr, epr, hpr⟩ := hal.get er
      have hlb := hbs.length
      have hle : ((l.cells.zipIdx.take i).filterMap (Cf.lockF R)).length ≤ 9 := by
        refine Nat.le_trans (List.length_filterMap_le _ _) ?_
        rw [List.length_take, List.length_zipIdx]
        omega
      have hlk2 := sT _ _ hlk1
      refine ⟨Tp, _, rfl, SqT.of upd_same, rfl, _, _, rfl, _, _, rfl, rfl, ?_⟩
      refine ⟨_, rfl, _, rfl, cp, _, _, _, rfl, rfl, SqT.of hp2, rfl, a, _, _, V.ref pr, rfl, rfl, SqL.of (sm2 _ _ ha), at_of (j := c.1) rfl (map_at epr), _, rfl, cp, _, _, _, rfl, rfl, SqT.of hp2, rfl, pr, _, _, V.int (Cf.byteAt R c), rfl, rfl, SqL.of (sm2 _ _ hpr), at_of (j := c.2) rfl (map_at eb), ?_⟩
      refine ⟨_, rfl, _, rfl, _, rfl, ite2 (fun h => ?_) (fun h => ?_)⟩
      · have ef : Cf.lockF R (c, i) = some (i, Cf.byteAt R c) := by unfold Cf.lockF; rw [if_pos h]
        refine ⟨_, rfl, .inl ⟨rfl, _, SqL.of hlk2⟩, _, rfl, _, rfl, by show 2 ≤ sizeLine; decide, fun tp htp => ?_⟩
        have sp2 := Same.upd (o := .tup [.int (i : Nat), .int (Cf.byteAt R c)]) htp
        refine ⟨lk, _, _, rfl, rfl, sp2 _ _ hlk2, small (by rw [List.length_map, hlb]; unfold lkI; rw [List.length_map]; omega), _, _, _, bs ++ [tp], rfl, (sm2.trans sp2).updR hlk, by rw [upd_same, List.map_append]; rfl, ?_⟩
        rw [fm_take _ _ hc, ef, lkI_app]
        refine Al.append (Al.mono (fun _ _ z => PairAt.upd (PairAt.same (sT.trans sp2) z) (sp2 _ _ hlk2)) hbs) (Al.one (PairAt.upd ?_ (sp2 _ _ hlk2)))
        show upd _ tp _ tp = _
        rw [upd_same]
      · have ef : Cf.lockF R (c, i) = none := by unfold Cf.lockF; rw [if_neg h]
        refine ⟨_, _, _, bs, rfl, sm2, hlk2, ?_⟩
        rw [fm_take _ _ hc, ef]
        simp only [Option.toList_none, List.append_nil]
        exact Al.mono (fun _ _ z => PairAt.same sT z) hbs
    · rintro σ H' ⟨v3, v4, v5, bs, rfl, sm, hlk1, hbs⟩
      refine ⟨_, rfl, k H' lk sm hlk ⟨bs, hlk1, ?_⟩⟩
      rw [List.take_of_length_le (by rw [List.length_zipIdx, List.length_map]; omega)] at hbs
      exact hbs
def sp_earlier_crossings (C : Addr) : Sp := fun vs H Q _ => ∃ (a x : Addr) (ls : List ClLat.Light) (l : ClLat.Light), vs = [.ref a, .ref x] ∧ LightsAt C H a ls ∧ ls.length ≤ 200 ∧ LightAt C H x l ∧ ∀ H' p, Same H H' → H p = none → TripsAt H' p (Cf.crossM ls l) → Q (.ref p) H'
theorem TripAt.upd {H : Hp} {l p : Addr} {xs : List V} {o : HO} {y : Nat × Nat × Nat} (h : TripAt H p y) (hl : H l = some (.lst xs)) : TripAt (L2.upd H l o) p y := by
  have : p ≠ l := ne_of h hl (by intro z; cases z)
  unfold TripAt
  rw [upd_ne this]
  exact h
theorem ok_earlier_crossings (T : Txt K mg A) : FnOk P w K mg base CX0 2 A.a_earlier_crossings A.d_earlier_crossings ["lights", "light"] (sp_earlier_crossings A.c_Light) := by
  refine T.F_earlier_crossings.ok sc_earlier_crossings (fun vs H Q E h => ?_) (fun cdv Ar outer s H vs Q E hr h => ?_)
  · obtain ⟨a, x, ls, l, rfl, _⟩ := h
    rfl
  · obtain ⟨a, x, ls, l, rfl, hls, h200, hx, k⟩ := h
    obtain ⟨as, ha, hal⟩ := hls.ex
    have hlas := hal.length
    refine ⟨_, (pss_cons (ps_set (i := 2) sc_earlier_crossings.nd rfl (Or.inl rfl) (pe_lst pa_nil))
  (pss_cons (ps_for PassesOwn.never rfl (pi_enum rfl T.b_enumerate (pa_cons (pv 0) pa_nil)) (pg_tup rfl (pgs_cons (pg_name (i := 3) sc_earlier_crossings.nd rfl (Or.inl rfl)) (pgs_cons (pg_name (i := 4) sc_earlier_crossings.nd rfl (Or.inl rfl)) pgs_nil)))
  (pss_cons (ps_set (i := 5) sc_earlier_crossings.nd rfl (Or.inl rfl) (pe_call (ok_crossing T) (hr.mono (by decide)) rfl T.m_crossing T.F_crossing.kp T.bd_crossing .nil pass0 (pa_cons (pv 1) (pa_cons (pv 4) pa_nil))))
  (pss_one (ps_if (pt_cmpR op_notN (pv 5) pe_non (nomark _)) (pss_one (ps_expr (pe_bm PySem.F.plainAttrs_list PySem.F.slot_list_append PySem.F.type_list_append mt_append (pv 2) (pa_cons (pe_tup (pa_cons (pe_ix ix_tup (pv 5) pe_int (fun _ _ => rfl)) (pa_cons (pv 3) (pa_cons (pe_ix ix_tup (pv 5) pe_int (fun _ _ => rfl)) pa_nil)))) pa_nil)))) pss_nil))))
  (pss_one (ps_ret (pv 2))))), ?_⟩
    refine ⟨Nat.zero_le _, fun lk hlk => ?_⟩
    have s0 : Same H (upd H lk (.lst [])) := Same.upd hlk
    refine ⟨_, rfl, a, _, rfl, SqL.of (s0 _ _ ha), for_enum (K := K) (a := a) (xs := as.map V.ref) (fun i σ H' => ∃ (v3 v4 v5 : Option V) (bs : List Addr), σ = [some (.ref a), some (.ref x), some (.ref lk), v3, v4, v5] ∧ Same H H' ∧ H' lk = some (.lst (bs.map V.ref)) ∧ Al (TripAt H') bs ((ls.zipIdx.take i).filterMap (Cf.crF l)))
      ⟨none, none, none, [], rfl, s0, upd_same, trivial⟩ (fun i σ H' _ ⟨_, _, _, _, _, s5, _⟩ => SqL.of (s5 _ _ ha)) ?_ ?_⟩
    · rintro i v σ H' Tp hi ⟨v3, v4, v5, bs, rfl, sm, hlk1, hbs⟩ hT
      obtain ⟨y, hy, rfl⟩ := refs_get hi
      obtain ⟨m, hm, hat⟩ := hal.at_ hy
      have him : i < ls.length := (List.getElem?_eq_some_iff.mp hm).1
      have sT := Same.upd (o := .tup [.int (i : Nat), .ref y]) hT
      have sm2 : Same H (upd H' Tp (.tup [.int (i : Nat), .ref y])) := sm.trans sT
      have hlb := hbs.length
      have hle : ((ls.zipIdx.take i).filterMap (Cf.crF l)).length ≤ 200 := by
        refine Nat.le_trans (List.length_filterMap_le _ _) ?_
        rw [List.length_take, List.length_zipIdx]
        omega
      have hlk2 := sT _ _ hlk1
      refine ⟨Tp, _, rfl, SqT.of upd_same, rfl, _, _, rfl, _, _, rfl, rfl, ?_⟩
      refine ⟨_, rfl, _, rfl, x, y, l, m, rfl, hx.same sm2, hat.same sm2, ?_⟩
      cases ec : ClLat.crossing l m with
      | none =>
        intro H2 s2
        have ef : Cf.crF l (m, i) = none := by unfold Cf.crF; rw [ec]; rfl
        refine ⟨_, rfl, rfl, _, rfl, ite2 (fun h => absurd h (by simp)) (fun h => ⟨_, _, _, bs, rfl, sm2.trans s2, s2 _ _ hlk2, ?_⟩)⟩
        rw [fm_take _ _ hm, ef]
        simp only [Option.toList_none, List.append_nil]
        exact Al.mono (fun _ _ z => (sT.trans s2) _ _ z) hbs
      | some z =>
        intro H2 p s2 hp hp2
        have ef : Cf.crF l (m, i) = some (z.1, i, z.2) := by unfold Cf.crF; rw [ec]; rfl
        refine ⟨_, rfl, rfl, _, rfl, ite2 (fun h => ?_) (fun h => absurd (by simp) h)⟩
        refine ⟨_, rfl, .inl ⟨rfl, _, SqL.of (s2 _ _ hlk2)⟩, _, rfl, p, _, _, _, rfl, rfl, SqT.of hp2, rfl, _, rfl, _, rfl, p, _, _, _, rfl, rfl, SqT.of hp2, rfl, by show 3 ≤ sizeLine; decide, fun tp htp => ?_⟩
        have sp2 := Same.upd (o := .tup [.int (z.1 : Nat), .int (i : Nat), .int (z.2 : Nat)]) htp
        have hlk3 := sp2 _ _ (s2 _ _ hlk2)
        refine ⟨lk, _, _, rfl, rfl, hlk3, small (by rw [List.length_map, hlb]; omega), _, _, _, bs ++ [tp], rfl, ((sm2.trans s2).trans sp2).updR hlk, by rw [upd_same, List.map_append]; rfl, ?_⟩
        rw [fm_take _ _ hm, ef]
        refine Al.append (Al.mono (fun _ _ z => TripAt.upd (((sT.trans s2).trans sp2) _ _ z) hlk3) hbs) (Al.one (TripAt.upd ?_ hlk3))
        show upd _ tp _ tp = _
        rw [upd_same]
    · rintro σ H' ⟨v3, v4, v5, bs, rfl, sm, hlk1, hbs⟩
      refine ⟨_, rfl, k H' lk sm hlk ⟨bs, hlk1, ?_⟩⟩
      rw [List.take_of_length_le (by rw [List.length_zipIdx, List.length_map]; omega)] at hbs
      exact hbs
def sp_slots_of (C : Addr) : Sp := fun vs H Q _ => ∃ (a : Addr) (R : List (List Int)) (w : Nat), vs = [.ref a] ∧ RowsAt H a R ∧ Cf.Rect R w ∧ ∀ H' p, Same H H' → H p = none → SlotsAt C H' p (Cf.slotsM R (Cf.gridOf R w).lights) → Q (.ref p) H'
theorem Al.take {α : Type} {P : Addr → α → Prop} : ∀ {as : List Addr} {xs : List α} (n : Nat), Al P as xs → Al P (as.take n) (xs.take n)
  | _, _, 0, _ => trivial
  | [], [], _ + 1, _ => trivial
  | _ :: _, _ :: _, n + 1, h => ⟨h.1, Al.take n h.2⟩
  | [], _ :: _, _, h => h.elim
  | _ :: _, [], _, h => h.elim
theorem ok_slots_of (T : Txt K mg A) : FnOk P w K mg base CX0 4 A.a_slots_of A.d_slots_of ["rows"] (sp_slots_of A.c_Slot) := by
  refine T.F_slots_of.ok sc_slots_of (fun vs H Q E h => ?_) (fun cdv Ar outer s H vs Q E hr h => ?_)
  · obtain ⟨a, R, w, rfl, _⟩ := h
    rfl
  · obtain ⟨a, R, w, rfl, hR, hRect, k⟩ := h
    refine ⟨_, (pss_cons (ps_set (i := 1) sc_slots_of.nd rfl (Or.inl rfl) (pe_call (ok_lights_of T) (hr.mono (by decide)) rfl T.m_lights_of T.F_lights_of.kp T.bd_lights_of .nil pass0 (pa_cons (pv 0) pa_nil)))
  (pss_cons (ps_set (i := 2) sc_slots_of.nd rfl (Or.inl rfl) (pe_lst pa_nil))
  (pss_cons (ps_for PassesOwn.never rfl (pi_enum rfl T.b_enumerate (pa_cons (pv 1) pa_nil)) (pg_tup rfl (pgs_cons (pg_name (i := 3) sc_slots_of.nd rfl (Or.inl rfl)) (pgs_cons (pg_name (i := 4) sc_slots_of.nd rfl (Or.inl rfl)) pgs_nil)))
  (pss_one (ps_expr (pe_bm PySem.F.plainAttrs_list PySem.F.slot_list_append PySem.F.type_list_append mt_append (pv 2) (pa_cons (pe_make T.mk_Slot (ok_Slot_init T) (hr.mono (by decide)) rfl T.m_Slot T.bd_Slot_init .nil pass0 (pa_cons (pe_fld (pv 4) rfl) (pa_cons (pe_call (ok_locked_letters T) (hr.mono (by decide)) rfl T.m_locked_letters T.F_locked_letters.kp T.bd_locked_letters .nil pass0 (pa_cons (pv 0) (pa_cons (pv 4) pa_nil))) (pa_cons (pe_call (ok_earlier_crossings T) (hr.mono (by decide)) rfl T.m_earlier_crossings T.F_earlier_crossings.kp T.bd_earlier_crossings .nil pass0 (pa_cons (pe_slice sl_list (pv 1) po_none (po_some (pv 3))) (pa_cons (pv 4) pa_nil))) pa_nil)))) pa_nil)))))
  (pss_one (ps_ret (pv 2)))))), ?_⟩
    refine ⟨_, rfl, a, R, w, rfl, hR, hRect, fun H1 pl s1 hpl hls => ?_⟩
    obtain ⟨as, hpl1, hal⟩ := hls.ex
    have hlas := hal.length
    have hcount := Cf.lights_count hRect
    refine ⟨Nat.zero_le _, fun l hl => ?_⟩
    have s2 : Same H1 (upd H1 l (.lst [])) := Same.upd hl
    have hlH : H l = none := s1.free hl
    -- what is known without the list that grows
    have kH1 : Same H1 (Hid (upd H1 l (.lst [])) l) := s2.toHid hl
    refine ⟨_, rfl, pl, _, rfl, SqL.of (s2 _ _ hpl1), for_enum (K := K) (a := pl) (xs := as.map V.ref) (fun i σ H' => ∃ (v3 v4 : Option V) (bs : List Addr), σ = [some (.ref a), some (.ref pl), some (.ref l), v3, v4] ∧ H' l = some (.lst (bs.map V.ref)) ∧ Same H1 (Hid H' l) ∧ Al (SlotAt A.c_Slot (Hid H' l)) bs ((Cf.slotsM R (Cf.gridOf R w).lights).take i))
      ⟨none, none, [], rfl, upd_same, kH1, trivial⟩ (fun i σ H' _ ⟨_, _, _, _, _, s5, _⟩ => SqL.of (Hid.same _ _ (s5 _ _ hpl1))) ?_ ?_⟩
    · rintro i v σ H' Tp hi ⟨v3, v4, bs, rfl, hl1, sm, hbs⟩ hT
      obtain ⟨x, hx, rfl⟩ := refs_get hi
      obtain ⟨lt, hlt, hat⟩ := hal.at_ hx
      have hmem := List.mem_of_getElem? hlt
      have sT := Same.upd (o := .tup [.int (i : Nat), .ref x]) hT
      have smT : Same H1 (upd H' Tp (.tup [.int (i : Nat), .ref x])) := (sm.trans Hid.same).trans sT
      have hl2 := sT _ _ hl1
      obtain ⟨dx, q, hx1, hxc⟩ := hat.ex
      refine ⟨Tp, _, rfl, SqT.of upd_same, rfl, _, _, rfl, _, _, rfl, rfl, ?_⟩
      refine ⟨_, rfl, .inl ⟨rfl, _, SqL.of hl2⟩, _, rfl, x, A.c_Light, dx, _, _, rfl, smT _ _ hx1, T.cl_Light, T.n_Light_cells, lf_cells _ _ _, ?_⟩
      refine ⟨_, rfl, _, rfl, a, x, R, w, lt, rfl, hR.same (s1.trans smT), hRect, hat.same smT, hmem, fun H3 pk s3 hpk hpairs => ?_⟩
      refine ⟨_, rfl, _, rfl, _, rfl, pl, _, rfl, SqL.of (s3 _ _ (smT _ _ hpl1)), fun ps hps => ?_⟩
      rw [cut_to]
      have s4 := Same.upd (o := .lst ((as.map V.ref).take i)) hps
      have hlst : LightsAt A.c_Light (upd H3 ps (.lst ((as.map V.ref).take i))) ps ((Cf.gridOf R w).lights.take i) :=
        ⟨as.take i, by rw [upd_same, List.map_take], Al.mono (fun _ _ z => z.same ((smT.trans s3).trans s4)) (Al.take i hal)⟩
      refine ⟨_, rfl, ps, x, _, lt, rfl, hlst, by rw [List.length_take]; omega, hat.same ((smT.trans s3).trans s4), fun H5 pt s5 hpt htrips => ?_⟩
      have s35 : Same H3 H5 := s4.trans s5
      have sT5 : Same (upd H' Tp (.tup [.int (i : Nat), .ref x])) H5 := s3.trans s35
      have hl5 := sT5 _ _ hl2
      intro xn dn nx ndx nex
      refine ⟨xn, dn, q, pk, pt, rfl, upd_same, fun H6 h6 keep => ⟨rfl, ?_⟩⟩
      have s56 : Same H5 H6 := Same.made nx ndx keep
      have s16 : Same H1 H6 := (smT.trans sT5).trans s56
      have hl6 : H6 l = some (.lst (bs.map V.ref)) := s56 _ _ hl5
      have nxl : xn ≠ l := fun z => by rw [z, hl5] at nx; cases nx
      have npk : pk ≠ l := fun z => by rw [z, hl2] at hpk; cases hpk
      have npt : pt ≠ l := fun z => by rw [z, s4 _ _ (s3 _ _ hl2)] at hpt; cases hpt
      have nql : q ≠ l := fun z => by
        obtain ⟨cs, hq, _⟩ := hxc.ex
        rw [z, hl] at hq; cases hq
      have hlb := hbs.length
      have hslen := Cf.slots_len R (Cf.gridOf R w).lights
      have hblen : bs.length ≤ 200 := by rw [hlb, List.length_take]; omega
      refine ⟨l, _, _, rfl, rfl, hl6, small (by rw [List.length_map]; omega), _, _, bs ++ [xn], rfl, by rw [upd_same, List.map_append]; rfl, ?_, ?_⟩
      · rw [Hid_upd]
        exact s16.toHid hl
      · rw [Hid_upd, take_snoc (Cf.slots_get R _ hlt)]
        have sH6 : Same (Hid H' l) (Hid H6 l) := ((sT.trans sT5).trans s56).hid
        refine Al.append (Al.mono (fun _ _ z => z.same sH6) hbs) (Al.one ⟨dn, q, pk, pt, by rw [Hid_ne nxl]; exact h6, ?_, ?_, ?_⟩)
        · exact CellsAt.hid (hxc.same s16) hl6 nql
        · exact PairsAt.hid (hpairs.same (s35.trans s56)) hl6 npk
        · exact TripsAt.hid (htrips.same s56) hl6 npt
    · rintro σ H' ⟨v3, v4, bs, rfl, hl1, sm, hbs⟩
      refine ⟨_, rfl, k H' l (s1.trans (sm.trans Hid.same)) hlH ⟨bs, hl1, ?_⟩⟩
      rw [List.take_of_length_le (by rw [Cf.slots_len, List.length_map]; omega)] at hbs
      exact Al.mono (fun _ _ z => z.same Hid.same) hbs
end
end S
end
section
set_option Elab.async false
set_option linter.all false
set_option maxRecDepth 100000
set_option maxHeartbeats 2000000
namespace S
open PySem PySem.Spec PyProof.Rows L2
-- needs: slots
section
variable {P : Program} {w : World} {K : PySem.W.Frag} {mg : Str → Option Value} {base : Heap} {A : Adr}
def sp_stands_by_itself (C : Addr) : Sp := fun vs H Q _ => ∃ (x q : Addr) (sd : Cf.SlotD) (word : List Int), vs = [.ref x, .ref q] ∧ SlotAt C H x sd ∧ RowAt H q word ∧ (∀ y ∈ sd.lk, y.1 < sd.cells.length) ∧ Q (.bl (Cf.standsM sd word)) H
theorem ok_stands_by_itself (T : Txt K mg A) : FnOk P w K mg base CX0 1 A.a_stands_by_itself A.d_stands_by_itself ["slot", "word"] (sp_stands_by_itself A.c_Slot) := by
  refine T.F_stands_by_itself.ok sc_stands_by_itself (fun vs H Q E h => ?_) (fun cdv Ar outer s H vs Q E hr h => ?_)
  · obtain ⟨x, q, sd, word, rfl, _⟩ := h
    rfl
  · obtain ⟨x, q, sd, word, rfl, hx, hq, hok, k⟩ := h
    have hq : H q = some (.lst (word.map V.int)) := hq
    obtain ⟨dx, q1, q2, q3, hx1, hc, hlk, _⟩ := hx.ex
    obtain ⟨cs, hc1, hcs⟩ := hc.ex
    obtain ⟨ks, hk1, hks⟩ := hlk.ex
    have hcl := hcs.length
    have hkl := hks.length
    refine ⟨_, (pss_cons (ps_if (pt_cmpR op_ne (pe_callB call_len_seq rfl T.b_len PySem.boot_len (pa_cons (pv 1) pa_nil)) (pe_callB call_len_seq rfl T.b_len PySem.boot_len (pa_cons (pe_fld (pv 0) rfl) pa_nil)) (nomark _)) (pss_one (ps_ret pe_bl)) pss_nil)
  (pss_cons (ps_for PassesOwn.never rfl (pi_list (pe_fld (pv 0) rfl)) (pg_tup rfl (pgs_cons (pg_name (i := 2) sc_stands_by_itself.nd rfl (Or.inl rfl)) (pgs_cons (pg_name (i := 3) sc_stands_by_itself.nd rfl (Or.inl rfl)) pgs_nil)))
  (pss_one (ps_if (pt_cmpR op_ne (pe_ix ix_list (pv 1) (pv 2) (fun _ _ => rfl)) (pv 3) (nomark _)) (pss_one (ps_ret pe_bl)) pss_nil)))
  (pss_one (ps_ret pe_bl)))), ?_⟩
    refine ⟨_, rfl, q, _, rfl, .inl (SqL.of hq), _, rfl, x, A.c_Slot, dx, _, _, rfl, hx1, T.cl_Slot, T.n_Slot_cells, sf_cells _ _ _, q1, _, rfl, .inl (SqL.of hc1), rfl, _, rfl, ite2 (fun h => ?_) (fun h => ?_)⟩
    · have h0 : ¬ ((word.map V.int).length : Int) = ((cs.map V.ref).length : Int) := by simpa using h
      rw [List.length_map, List.length_map] at h0
      have e : Cf.standsM sd word = false := by
        unfold Cf.standsM
        rw [decide_eq_false (by omega), Bool.false_and]
      rw [e] at k
      exact k
    · have h0 : ((word.map V.int).length : Int) = ((cs.map V.ref).length : Int) := by simpa using h
      rw [List.length_map, List.length_map] at h0
      have hlen : word.length = sd.cells.length := by omega
      have est : Cf.standsM sd word = sd.lk.all fun y => decide (word.getD y.1 0 = y.2) := by
        unfold Cf.standsM
        rw [decide_eq_true hlen, Bool.true_and]
      refine ⟨_, rfl, x, A.c_Slot, dx, _, _, rfl, hx1, T.cl_Slot, T.n_Slot_locked, sf_locked _ _ _, q2, rfl, ⟨_, SqL.of hk1⟩, for_list (K := K) (a := q2) (xs := ks.map V.ref) (fun i σ H' => ∃ (v2 v3 : Option V), σ = [some (.ref x), some (.ref q), v2, v3] ∧ H' = H ∧ (sd.lk.all fun y => decide (word.getD y.1 0 = y.2)) = ((sd.lk.drop i).all fun y => decide (word.getD y.1 0 = y.2)))
        ⟨none, none, rfl, rfl, rfl⟩ (fun i σ H' _ ⟨_, _, _, e, _⟩ => by rw [e]; exact SqL.of hk1) ?_ ?_⟩
      · rintro i v σ H' hi ⟨v2, v3, rfl, rfl, ef⟩
        obtain ⟨tp, htp, rfl⟩ := refs_get hi
        obtain ⟨z, hz, hpz⟩ := hks.at_ htp
        unfold lkI at hz
        rw [List.getElem?_map] at hz
        cases ey : sd.lk[i]? with
        | none => rw [ey] at hz; cases hz
        | some y =>
          rw [ey] at hz
          have ez : (((y.1 : Nat) : Int), y.2) = z := by simpa using hz
          subst ez
          have hy := hok y (List.mem_of_getElem? ey)
          have ew : word[y.1]? = some word[y.1] := List.getElem?_eq_getElem (by omega)
          rw [drop_at ey, List.all_cons, Cf.getD_at ew] at ef
          refine ⟨tp, _, rfl, SqT.of hpz, rfl, _, _, rfl, _, _, rfl, rfl, ?_⟩
          refine ⟨_, rfl, _, rfl, q, _, _, V.int word[y.1], rfl, rfl, SqL.of hq, at_of (j := y.1) rfl (map_at ew), _, rfl, rfl, _, rfl, ite2 (fun h => ?_) (fun h => ?_)⟩
          · have hne : ¬ word[y.1] = y.2 := by simpa using h
            rw [decide_eq_false hne, Bool.false_and] at ef
            rw [est, ef] at k
            exact k
          · have he : word[y.1] = y.2 := by simpa using h
            rw [decide_eq_true he, Bool.true_and] at ef
            exact ⟨_, _, rfl, rfl, ef⟩
      · rintro σ H' ⟨v2, v3, rfl, rfl, ef⟩
        unfold lkI at hkl
        rw [List.length_map] at hkl
        rw [List.drop_eq_nil_of_le (by rw [List.length_map]; omega)] at ef
        rw [est, ef] at k
        exact k
def sp_agrees_with_earlier (C : Addr) : Sp := fun vs H Q _ => ∃ (x wp e q : Addr) (sd : Cf.SlotD) (W : List (List Int)) (had : List Nat) (word : List Int), vs = [.ref x, .ref wp, .ref e, .ref q] ∧ SlotAt C H x sd ∧ RowsAt H wp W ∧ H e = some (.lst (natsV had)) ∧ RowAt H q word ∧
  (∀ y ∈ sd.cr, y.1 < word.length ∧ ∃ n r, had[y.2.1]? = some n ∧ W[n]? = some r ∧ y.2.2 < r.length) ∧ Q (.bl (Cf.agreesM sd W had word)) H
theorem ok_agrees_with_earlier (T : Txt K mg A) : FnOk P w K mg base CX0 1 A.a_agrees_with_earlier A.d_agrees_with_earlier ["slot", "words", "earlier", "word"] (sp_agrees_with_earlier A.c_Slot) := by
  refine T.F_agrees_with_earlier.ok sc_agrees_with_earlier (fun vs H Q E h => ?_) (fun cdv Ar outer s H vs Q E hr h => ?_)
  · obtain ⟨x, wp, e, q, sd, W, had, word, rfl, _⟩ := h
    rfl
  · obtain ⟨x, wp, e, q, sd, W, had, word, rfl, hx, hW, he, hq, hok, k⟩ := h
    have hq : H q = some (.lst (word.map V.int)) := hq
    obtain ⟨dx, q1, q2, q3, hx1, _, _, hcr⟩ := hx.ex
    obtain ⟨ks, hk1, hks⟩ := hcr.ex
    obtain ⟨ws, hw1, hws⟩ := hW.ex
    have hkl := hks.length
    refine ⟨_, (pss_cons (ps_for PassesOwn.never rfl (pi_list (pe_fld (pv 0) rfl)) (pg_tup rfl (pgs_cons (pg_name (i := 4) sc_agrees_with_earlier.nd rfl (Or.inl rfl)) (pgs_cons (pg_name (i := 5) sc_agrees_with_earlier.nd rfl (Or.inl rfl)) (pgs_cons (pg_name (i := 6) sc_agrees_with_earlier.nd rfl (Or.inl rfl)) pgs_nil))))
  (pss_one (ps_if (pt_cmpR op_ne (pe_ix ix_list (pv 3) (pv 4) (fun _ _ => rfl)) (pe_ix ix_list (pe_ix ix_list (pv 1) (pe_ix ix_list (pv 2) (pv 5) (fun _ _ => rfl)) (fun _ _ => rfl)) (pv 6) (fun _ _ => rfl)) (nomark _)) (pss_one (ps_ret pe_bl)) pss_nil)))
  (pss_one (ps_ret pe_bl))), ?_⟩
    refine ⟨_, rfl, x, A.c_Slot, dx, _, _, rfl, hx1, T.cl_Slot, T.n_Slot_crossings, sf_crossings _ _ _, q3, rfl, ⟨_, SqL.of hk1⟩, for_list (K := K) (a := q3) (xs := ks.map V.ref) (fun i σ H' => ∃ (v4 v5 v6 : Option V), σ = [some (.ref x), some (.ref wp), some (.ref e), some (.ref q), v4, v5, v6] ∧ H' = H ∧ Cf.agreesM sd W had word = ((sd.cr.drop i).all fun y => decide (word.getD y.1 0 = (W.getD (had.getD y.2.1 0) []).getD y.2.2 0)))
      ⟨none, none, none, rfl, rfl, rfl⟩ (fun i σ H' _ ⟨_, _, _, _, e, _⟩ => by rw [e]; exact SqL.of hk1) ?_ ?_⟩
    · rintro i v σ H' hi ⟨v4, v5, v6, rfl, rfl, ef⟩
      obtain ⟨tp, htp, rfl⟩ := refs_get hi
      obtain ⟨y, hy, hpy⟩ := hks.at_ htp
      obtain ⟨h1, n, r, hn, hr2, h2⟩ := hok y (List.mem_of_getElem? hy)
      have ew : word[y.1]? = some word[y.1] := List.getElem?_eq_getElem h1
      have er : r[y.2.2]? = some r[y.2.2] := List.getElem?_eq_getElem h2
      obtain ⟨pr, hpr, hprow⟩ := hws.get hr2
      have hen : (natsV had)[y.2.1]? = some (.int (n : Nat)) := by unfold natsV; rw [List.getElem?_map, hn]; rfl
      rw [drop_at hy, List.all_cons, Cf.getD_at ew, Cf.getD_at hn, Cf.getD_at hr2, Cf.getD_at er] at ef
      refine ⟨tp, _, rfl, SqT.of hpy, rfl, _, _, rfl, _, _, rfl, _, _, rfl, rfl, ?_⟩
      refine ⟨_, rfl, _, rfl, q, _, _, V.int word[y.1], rfl, rfl, SqL.of hq, at_of (j := y.1) rfl (map_at ew), ?_⟩
      refine ⟨_, rfl, _, rfl, _, rfl, e, _, _, V.int (n : Nat), rfl, rfl, SqL.of he, at_of (j := y.2.1) rfl hen, wp, _, _, V.ref pr, rfl, rfl, SqL.of hw1, at_of (j := n) rfl (map_at hpr), _, rfl, pr, _, _, V.int r[y.2.2], rfl, rfl, SqL.of hprow, at_of (j := y.2.2) rfl (map_at er), rfl, _, rfl, ite2 (fun h => ?_) (fun h => ?_)⟩
      · have hne : ¬ word[y.1] = r[y.2.2] := by simpa using h
        rw [decide_eq_false hne, Bool.false_and] at ef
        rw [ef] at k
        exact k
      · have he2 : word[y.1] = r[y.2.2] := by simpa using h
        rw [decide_eq_true he2, Bool.true_and] at ef
        exact ⟨_, _, _, rfl, rfl, ef⟩
    · rintro σ H' ⟨v4, v5, v6, rfl, rfl, ef⟩
      rw [List.drop_eq_nil_of_le (by rw [List.length_map]; omega)] at ef
      rw [ef] at k
      exact k
def sp_wrong_with (C : Addr) : Sp := fun vs H Q _ => ∃ (a wp e : Addr) (sl : List Cf.SlotD) (W : List (List Int)) (had : List Nat) (n : Nat), vs = [.ref a, .ref wp, .ref e, .int (n : Nat)] ∧ SlotsAt C H a sl ∧ Cf.SlotsOk sl ∧ RowsAt H wp W ∧ H e = some (.lst (natsV had)) ∧ had.length < sl.length ∧ Cf.Valid sl W had ∧ Q (.int (Cf.wrongM sl W had n : Nat)) H
theorem ok_wrong_with (T : Txt K mg A) : FnOk P w K mg base CX0 2 A.a_wrong_with A.d_wrong_with ["slots", "words", "earlier", "number"] (sp_wrong_with A.c_Slot) := by
  refine T.F_wrong_with.ok sc_wrong_with (fun vs H Q E h => ?_) (fun cdv Ar outer s H vs Q E hr h => ?_)
  · obtain ⟨a, wp, e, sl, W, had, n, rfl, _⟩ := h
    rfl
  · obtain ⟨a, wp, e, sl, W, had, n, rfl, hsl, hok, hW, he, hlt, hv, k⟩ := h
    obtain ⟨as, ha, hal⟩ := hsl.ex
    obtain ⟨ws, hw1, hws⟩ := hW.ex
    have hwl := hws.length
    have hs : sl[had.length]? = some sl[had.length] := List.getElem?_eq_getElem hlt
    unfold Cf.wrongM at k
    rw [hs] at k
    simp only at k
    obtain ⟨x, hx, hxs⟩ := hal.get hs
    obtain ⟨ok1, ok2⟩ := hok _ _ hs
    have hnl : (natsV had).length = had.length := by unfold natsV; rw [List.length_map]
    refine ⟨_, (pss_cons (ps_if (pt_cmpR op_ge (pv 3) (pe_callB call_len_seq rfl T.b_len PySem.boot_len (pa_cons (pv 1) pa_nil)) (nomark _)) (pss_one (ps_ret (pe_globI rfl T.g_NO_SUCH_WORD))) pss_nil)
  (pss_cons (ps_set (i := 4) sc_wrong_with.nd rfl (Or.inl rfl) (pe_ix ix_list (pv 0) (pe_callB call_len_seq rfl T.b_len PySem.boot_len (pa_cons (pv 2) pa_nil)) (fun _ _ => rfl)))
  (pss_cons (ps_set (i := 5) sc_wrong_with.nd rfl (Or.inl rfl) (pe_ix ix_list (pv 1) (pv 3) (fun _ _ => rfl)))
  (pss_cons (ps_if (pt_not (pt_val (pe_call (ok_stands_by_itself T) (hr.mono (by decide)) rfl T.m_stands_by_itself T.F_stands_by_itself.kp T.bd_stands_by_itself .nil pass0 (pa_cons (pv 4) (pa_cons (pv 5) pa_nil))))) (pss_one (ps_ret (pe_globI rfl T.g_NOT_BY_ITSELF))) pss_nil)
  (pss_cons (ps_if (pt_cmpR op_in_seq (pv 3) (pv 2) (by with_unfolding_all rfl)) (pss_one (ps_ret (pe_globI rfl T.g_STANDS_BEFORE))) pss_nil)
  (pss_cons (ps_if (pt_not (pt_val (pe_call (ok_agrees_with_earlier T) (hr.mono (by decide)) rfl T.m_agrees_with_earlier T.F_agrees_with_earlier.kp T.bd_agrees_with_earlier .nil pass0 (pa_cons (pv 4) (pa_cons (pv 1) (pa_cons (pv 2) (pa_cons (pv 5) pa_nil))))))) (pss_one (ps_ret (pe_globI rfl T.g_CROSSES_WRONGLY))) pss_nil)
  (pss_one (ps_ret (pe_globI rfl T.g_NOTHING_WRONG))))))))), ?_⟩
    refine ⟨_, rfl, _, rfl, wp, _, rfl, .inl (SqL.of hw1), _, _, rfl, rfl, _, rfl, ite2 (fun h => ?_) (fun h => ?_)⟩
    · have h0 : ((ws.map V.ref).length : Int) ≤ (n : Nat) := of_decide_eq_true h
      rw [List.length_map] at h0
      rw [if_pos (by omega)] at k
      exact k
    have h0 : ¬ ((ws.map V.ref).length : Int) ≤ (n : Nat) := fun z => h (decide_eq_true z)
    rw [List.length_map] at h0
    rw [if_neg (by omega)] at k
    have hn : W[n]? = some W[n] := List.getElem?_eq_getElem (by omega)
    obtain ⟨q, hq, hqr⟩ := hws.get hn
    rw [Cf.getD_at hn] at k
    refine ⟨_, rfl, _, rfl, e, _, rfl, .inl (SqL.of he), a, _, _, V.ref x, rfl, rfl, SqL.of ha, at_of (j := had.length) (by rw [hnl]) (map_at hx), ?_⟩
    refine ⟨_, rfl, _, rfl, wp, _, _, V.ref q, rfl, rfl, SqL.of hw1, at_of (j := n) rfl (map_at hq), ?_⟩
    refine ⟨_, rfl, _, rfl, x, q, _, _, rfl, hxs, hqr, ok1, _, rfl, ite2 (fun h => ?_) (fun h => ?_)⟩
    · have h1 : Cf.standsM sl[had.length] W[n] = false := by simpa using h
      rw [if_pos h1] at k
      exact k
    have h1 : Cf.standsM sl[had.length] W[n] = true := by simpa using h
    rw [if_neg (by rw [h1]; simp)] at k
    refine ⟨_, rfl, _, rfl, e, _, rfl, .inl (SqL.of he), rfl, nats_flat had, _, rfl, ite2 (fun h => ?_) (fun h => ?_)⟩
    · have h2 : had.contains n = true := by rw [← nats_in]; simpa using h
      rw [if_pos h2] at k
      exact k
    have h2 : ¬ had.contains n = true := by rw [← nats_in]; simpa using h
    rw [if_neg h2] at k
    have hlen := Cf.stands_len h1
    have hcr : ∀ y ∈ sl[had.length].cr, y.1 < W[n].length ∧ ∃ m r, had[y.2.1]? = some m ∧ W[m]? = some r ∧ y.2.2 < r.length := fun y hy => by
      obtain ⟨c1, c2, c3⟩ := ok2 y hy
      have eh : had[y.2.1]? = some had[y.2.1] := List.getElem?_eq_getElem c2
      obtain ⟨s2, hs2, hlt2, hl2⟩ := hv _ _ eh
      have ew : W[had[y.2.1]]? = some W[had[y.2.1]] := List.getElem?_eq_getElem hlt2
      rw [Cf.getD_at ew] at hl2
      exact ⟨by omega, _, _, eh, ew, by rw [hl2]; exact c3 s2 hs2⟩
    refine ⟨_, rfl, _, rfl, _, rfl, _, rfl, x, wp, e, q, _, W, had, _, rfl, hxs, hW, he, hqr, hcr, _, rfl, ite2 (fun h => ?_) (fun h => ?_)⟩
    · have h3 : Cf.agreesM sl[had.length] W had W[n] = false := by simpa using h
      rw [if_neg (by rw [h3]; simp)] at k
      exact k
    · have h3 : Cf.agreesM sl[had.length] W had W[n] = true := by simpa using h
      rw [if_pos h3] at k
      exact k
end
end S
end
section
set_option Elab.async false
set_option linter.all false
set_option maxRecDepth 100000
set_option maxHeartbeats 2000000
namespace S
open PySem PySem.Spec PyProof.Rows L2
-- needs:
section
variable {P : Program} {w : World} {K : PySem.W.Frag} {mg : Str → Option Value} {base : Heap} {A : Adr}
def sp_lines_of (K : PySem.W.Frag) : Sp := fun vs H Q _ => ∃ (a : Addr) (ns : List Int), vs = [.ref a] ∧ SqL K H a (ns.map V.int) ∧ ns.length ≤ 10000 ∧ ∀ H' p, Same H H' → RowsAt H' p (Cf.rowsM ns) → Q (.ref p) H'
theorem ok_lines_of (T : Txt K mg A) : FnOk P w K mg base CX0 1 A.a_lines_of A.d_lines_of ["text"] (sp_lines_of K) := by
  refine T.F_lines_of.ok sc_lines_of (fun vs H Q E h => ?_) (fun cdv Ar outer s H vs Q E hr h => ?_)
  · obtain ⟨a, ns, rfl, _⟩ := h
    rfl
  · obtain ⟨a, ns, rfl, hS, hlen, k⟩ := h
    refine ⟨_, (pss_cons (ps_set (i := 1) sc_lines_of.nd rfl (Or.inl rfl) (pe_lst pa_nil))
  (pss_cons (ps_set (i := 2) sc_lines_of.nd rfl (Or.inl rfl) (pe_lst pa_nil))
  (pss_cons (ps_for PassesOwn.never rfl (pi_list (pv 0)) (pg_name (i := 3) sc_lines_of.nd rfl (Or.inl rfl))
  (pss_one (ps_if (pt_cmpR op_eq (pv 3) (pe_globI rfl T.g_LINE_END) (nomark _)) (pss_cons (ps_expr (pe_bm PySem.F.plainAttrs_list PySem.F.slot_list_append PySem.F.type_list_append mt_append (pv 1) (pa_cons (pv 2) pa_nil)))
  (pss_one (ps_set (i := 2) sc_lines_of.nd rfl (Or.inl rfl) (pe_lst pa_nil)))) (pss_one (ps_expr (pe_bm PySem.F.plainAttrs_list PySem.F.slot_list_append PySem.F.type_list_append mt_append (pv 2) (pa_cons (pv 3) pa_nil)))))))
  (pss_one (ps_ret (pv 1)))))), ?_⟩
    refine ⟨Nat.zero_le _, fun l hl => ⟨Nat.zero_le _, fun q hq => ?_⟩⟩
    have nlq : q ≠ l := fun z => by rw [z, upd_same] at hq; cases hq
    have hq0 : H q = none := by rw [upd_ne nlq] at hq; exact hq
    refine ⟨_, rfl, a, rfl, ⟨_, ((Same.refl H).updR hl |>.updR hq0).seq hS⟩, for_list (K := K) (a := a) (xs := ns.map V.int) (fun i σ H' => ∃ (as : List Addr) (rows : List (List Int)) (row : List Int) (q : Addr) (v3 : Option V), σ = [some (.ref a), some (.ref l), some (.ref q), v3] ∧
        Same H H' ∧ H' l = some (.lst (as.map V.ref)) ∧ Al (RowAt (Hid (Hid H' l) q)) as rows ∧ H' q = some (.lst (row.map V.int)) ∧ q ≠ l ∧ H q = none ∧ rows.length ≤ i ∧ row.length ≤ i ∧ Cf.rowsM ns = Cf.rowsGo (ns.drop i) rows row)
      ⟨[], [], [], q, none, rfl, (Same.refl H).updR hl |>.updR hq0, (by rw [upd_ne nlq.symm]; exact upd_same), Al.nil, upd_same, nlq, hq0, Nat.le_refl _, Nat.le_refl _, rfl⟩ (fun i σ H' _ ⟨_, _, _, _, _, _, s5, _⟩ => s5.seq hS) ?_ ?_⟩
    · rintro i x σ H' hi ⟨as, rows, row, q, v3, rfl, sm, hl', hal, hq', nq, hq0, z1, z2, er⟩
      obtain ⟨b, hb, rfl⟩ := ints_get hi
      have hi' : i < ns.length := (List.getElem?_eq_some_iff.mp hb).1
      rw [drop_at hb] at er
      simp only [Cf.rowsGo] at er
      have hlas : as.length = rows.length := hal.length
      refine ⟨_, rfl, rfl, _, rfl, ite2 (fun h => ?_) (fun h => ?_)⟩
      · have e10 : b = 10 := by simpa using h
        rw [if_pos e10] at er
        refine ⟨_, rfl, .inl ⟨rfl, _, SqL.of hl'⟩, _, rfl, l, _, _, rfl, rfl, hl', small (by rw [List.length_map]; omega), Nat.zero_le _, fun q2 hq2 => ?_⟩
        have n2l : q2 ≠ l := fun z => by rw [z, upd_same] at hq2; cases hq2
        have hq2' : H' q2 = none := by rw [upd_ne n2l] at hq2; exact hq2
        have hq2H : H q2 = none := sm.free hq2'
        have n2q : q ≠ q2 := fun z => by rw [z, hq2'] at hq'; cases hq'
        refine ⟨as ++ [q], rows ++ [row], [], q2, _, rfl, (sm.updR hl).updR hq2H, ?_, ?_, upd_same, n2l, hq2H, ?_, Nat.zero_le _, er⟩
        · rw [upd_ne n2l.symm, upd_same, List.map_append]; rfl
        · refine Al.append (Al.mono (fun p r hp => ?_) hal) (Al.one ?_)
          · obtain ⟨p1, hp⟩ := Hid_get hp
            obtain ⟨p2, hp⟩ := Hid_get hp
            have p3 : p ≠ q2 := fun z => by rw [z, hq2'] at hp; cases hp
            show Hid (Hid (upd (upd H' l _) q2 _) l) q2 p = _
            rw [Hid_ne p3, Hid_ne p2, upd_ne p3, upd_ne p2]
            exact hp
          · show Hid (Hid (upd (upd H' l _) q2 _) l) q2 q = _
            rw [Hid_ne n2q, Hid_ne nq, upd_ne n2q, upd_ne nq]
            exact hq'
        · rw [List.length_append, List.length_singleton]; omega
      · have e10 : ¬ b = 10 := by simpa using h
        rw [if_neg e10] at er
        refine ⟨_, rfl, .inl ⟨rfl, _, SqL.of hq'⟩, _, rfl, q, _, _, rfl, rfl, hq', small (by rw [List.length_map]; omega), ?_⟩
        refine ⟨as, rows, row ++ [b], q, _, rfl, sm.updR hq0, ?_, ?_, ?_, nq, hq0, by omega, ?_, er⟩
        · rw [upd_ne nq.symm]; exact hl'
        · refine Al.mono (fun p r hp => ?_) hal
          obtain ⟨p1, hp⟩ := Hid_get hp
          obtain ⟨p2, hp⟩ := Hid_get hp
          show Hid (Hid (upd H' q _) l) q p = _
          rw [Hid_ne p1, Hid_ne p2, upd_ne p1]
          exact hp
        · rw [upd_same, List.map_append]; rfl
        · rw [List.length_append, List.length_singleton]; omega
    · rintro σ H' ⟨as, rows, row, q, v3, rfl, sm, hl', hal, hq', nq, hq0, z1, z2, er⟩
      rw [List.length_map, List.drop_length] at er
      simp only [Cf.rowsGo] at er
      refine ⟨_, rfl, k H' l sm ⟨as, hl', ?_⟩⟩
      rw [er]
      exact Al.mono (fun p r hp => Hid.same _ _ (Hid.same _ _ hp)) hal
end
end S
end
section
set_option Elab.async false
set_option linter.all false
set_option maxRecDepth 100000
set_option maxHeartbeats 2000000
namespace S
open PySem PySem.Spec PyProof.Rows L2
-- needs: wrong lines
-- plain: CfM10
section
variable {P : Program} {w : World} {K : PySem.W.Frag} {mg : Str → Option Value} {base : Heap} {A : Adr}
def sfs (ps pw : Addr) (tr : Nat) (q : Addr) (k : Nat) (bg : Bool) : List (Str × V) := [("slots", .ref ps), ("words", .ref pw), ("trials", .int (tr : Nat)), ("standing", .ref q), ("number", .int (k : Nat)), ("begun", .bl bg)]
section
variable (ps pw : Addr) (tr : Nat) (q : Addr) (k : Nat) (bg : Bool)
theorem sfs_new : putF "begun" (.bl false) (putF "number" (.int 0) (putF "standing" (.ref q) (putF "trials" (.int (tr : Nat)) (putF "words" (.ref pw) (putF "slots" (.ref ps) []))))) = sfs ps pw tr q 0 false := by rfl
theorem sfs_trials (t2 : Nat) : putF "trials" (.int (t2 : Nat)) (sfs ps pw tr q k bg) = sfs ps pw t2 q k bg := by rfl
theorem sfs_number (k2 : Nat) : putF "number" (.int (k2 : Nat)) (sfs ps pw tr q k bg) = sfs ps pw tr q k2 bg := by rfl
theorem sfs_begun (b2 : Bool) : putF "begun" (.bl b2) (sfs ps pw tr q k bg) = sfs ps pw tr q k b2 := by rfl
theorem sl_slots : (sfs ps pw tr q k bg).lookup ("slots" : Str) = some (.ref ps) := by rfl
theorem sl_words : (sfs ps pw tr q k bg).lookup ("words" : Str) = some (.ref pw) := by rfl
theorem sl_trials : (sfs ps pw tr q k bg).lookup ("trials" : Str) = some (.int (tr : Nat)) := by rfl
theorem sl_standing : (sfs ps pw tr q k bg).lookup ("standing" : Str) = some (.ref q) := by rfl
theorem sl_number : (sfs ps pw tr q k bg).lookup ("number" : Str) = some (.int (k : Nat)) := by rfl
theorem sl_begun : (sfs ps pw tr q k bg).lookup ("begun" : Str) = some (.bl bg) := by rfl
theorem sl_step_back : (sfs ps pw tr q k bg).lookup ("step_back" : Str) = none := by rfl
theorem sl_try_word : (sfs ps pw tr q k bg).lookup ("try_word" : Str) = none := by rfl
theorem sl_following : (sfs ps pw tr q k bg).lookup ("following" : Str) = none := by rfl
end
/-- a heap without the search and its list -/
def Hd (H : Hp) (x q : Addr) : Hp := Hid (Hid H x) q
theorem Hd_same {H : Hp} {x q : Addr} : Same (Hd H x q) H := Hid.same.trans Hid.same
theorem Hd_mono {H H' : Hp} {x q : Addr} (s : Same H H') : Same (Hd H x q) (Hd H' x q) := s.hid.hid
theorem Hd_x {H : Hp} {x q : Addr} {o : HO} : Hd (upd H x o) x q = Hd H x q := by unfold Hd; rw [Hid_upd]
theorem Hd_q {H : Hp} {x q : Addr} {o : HO} : Hd (upd H q o) x q = Hd H x q := by
  funext b
  unfold Hd Hid
  by_cases h : b = q
  · rw [if_pos h, if_pos h]
  · rw [if_neg h, if_neg h]
    by_cases h2 : b = x
    · rw [if_pos h2, if_pos h2]
    · rw [if_neg h2, if_neg h2, upd_ne h]
structure SearchAt (C CS : Addr) (H : Hp) (x q : Addr) (sl : List Cf.SlotD) (W : List (List Int)) (st : List Nat) (k tr : Nat) (bg : Bool) : Prop where
  ex : ∃ dx ps pw, H x = some (.ins C dx (sfs ps pw tr q k bg)) ∧ H q = some (.lst (natsV st)) ∧ SlotsAt CS (Hd H x q) ps sl ∧ RowsAt (Hd H x q) pw W
def sp_Search_init (C : Addr) : Sp := fun vs H Q _ => ∃ (x dx ps pw : Addr) (n : Nat), vs = [.ref x, .ref ps, .ref pw, .int (n : Nat)] ∧ H x = some (.ins C dx []) ∧
  ∀ (H' : Hp) (q : Addr), H' x = some (.ins C dx (sfs ps pw n q 0 false)) → H' q = some (.lst []) → H q = none → (∀ b o, H b = some o → b ≠ x → H' b = some o) → Q .non H'
theorem ok_Search_init (T : Txt K mg A) : FnOk P w K mg base CX0 1 A.a_Search_init A.d_Search_init ["self", "slots", "words", "trials"] (sp_Search_init A.c_Search) := by
  refine T.F_Search_init.ok sc_Search_init (fun vs H Q E h => ?_) (fun cdv Ar outer s H vs Q E hr h => ?_)
  · obtain ⟨x, dx, ps, pw, n, rfl, _⟩ := h
    rfl
  · obtain ⟨x, dx, ps, pw, n, rfl, hx, k⟩ := h
    refine ⟨_, (pss_cons (ps_fld (pv 0) (pv 1) rfl)
  (pss_cons (ps_fld (pv 0) (pv 2) rfl)
  (pss_cons (ps_fld (pv 0) (pv 3) rfl)
  (pss_cons (ps_fld (pv 0) (pe_lst pa_nil) rfl)
  (pss_cons (ps_fld (pv 0) pe_int rfl)
  (pss_one (ps_fld (pv 0) pe_bl rfl))))))), ?_⟩
    have len : ∀ (f : Str) (v : V) (fs : List (Str × V)) (m : Nat), fs.length ≤ m → (putF f v fs).length ≤ m + 1 := fun f v fs m h => Nat.le_trans (length_putF f v fs) (by omega)
    refine ⟨_, rfl, _, rfl, x, A.c_Search, dx, _, rfl, hx, T.cl_Search, T.n_Search_slots, (by show 0 < 1000; decide), ?_⟩
    have l1 := len "slots" (.ref ps) [] 0 (Nat.le_refl _)
    refine ⟨_, rfl, _, rfl, x, A.c_Search, dx, _, rfl, upd_same, T.cl_Search, T.n_Search_words, by omega, ?_⟩
    have l2 := len "words" (.ref pw) _ _ l1
    refine ⟨_, rfl, _, rfl, x, A.c_Search, dx, _, rfl, upd_same, T.cl_Search, T.n_Search_trials, by omega, ?_⟩
    have l3 := len "trials" (.int (n : Nat)) _ _ l2
    refine ⟨Nat.zero_le _, fun q hq => ?_⟩
    have hxq := (Same.upd (o := .lst []) hq) x _ upd_same
    refine ⟨_, rfl, x, A.c_Search, dx, _, rfl, hxq, T.cl_Search, T.n_Search_standing, by omega, ?_⟩
    have nqx : q ≠ x := fun z => by rw [z, upd_same] at hq; cases hq
    have hq0 : H q = none := by rw [upd_ne nqx, upd_ne nqx, upd_ne nqx] at hq; exact hq
    have l4 := len "standing" (.ref q) _ _ l3
    refine ⟨_, rfl, x, A.c_Search, dx, _, rfl, upd_same, T.cl_Search, T.n_Search_number, by omega, ?_⟩
    have l5 := len "number" (.int 0) _ _ l4
    refine ⟨_, rfl, x, A.c_Search, dx, _, rfl, upd_same, T.cl_Search, T.n_Search_begun, by omega, ?_⟩
    refine k _ q ?_ ?_ hq0 fun b o e hb => ?_
    · rw [upd_same, sfs_new]
    · rw [upd_ne nqx, upd_ne nqx, upd_ne nqx, upd_same]
    · have nbq : b ≠ q := fun z => by rw [z, hq0] at e; cases e
      rw [upd_ne hb, upd_ne hb, upd_ne hb, upd_ne nbq, upd_ne hb, upd_ne hb, upd_ne hb]
      exact e
def sp_search_of (K : PySem.W.Frag) (C CS : Addr) : Sp := fun vs H Q _ => ∃ (n : Nat) (a b : Addr) (t wn : List Int) (wd : Nat), vs = [.int (n : Nat), .ref a, .ref b] ∧ SqL K H a (t.map V.int) ∧ t.length ≤ 100 ∧ SqL K H b (wn.map V.int) ∧ wn.length ≤ 2100 ∧ Cf.Rect (Cf.rowsM t) wd ∧
  ∀ H' x q, SearchAt C CS H' x q (Cf.slotsM (Cf.rowsM t) (Cf.gridOf (Cf.rowsM t) wd).lights) (Cf.rowsM wn) [] 0 n false → Same H (Hd H' x q) → Q (.ref x) H'
theorem ok_search_of (T : Txt K mg A) : FnOk P w K mg base CX0 5 A.a_search_of A.d_search_of ["n", "t", "w"] (sp_search_of K A.c_Search A.c_Slot) := by
  refine T.F_search_of.ok sc_search_of (fun vs H Q E h => ?_) (fun cdv Ar outer s H vs Q E hr h => ?_)
  · obtain ⟨n, a, b, t, wn, wd, rfl, _⟩ := h
    rfl
  · obtain ⟨n, a, b, t, wn, wd, rfl, ha, ht, hb, hw, hRect, k⟩ := h
    refine ⟨_, (pss_one (ps_ret (pe_make T.mk_Search (ok_Search_init T) (hr.mono (by decide)) rfl T.m_Search T.bd_Search_init .nil pass0 (pa_cons (pe_call (ok_slots_of T) (hr.mono (by decide)) rfl T.m_slots_of T.F_slots_of.kp T.bd_slots_of .nil pass0 (pa_cons (pe_call (ok_lines_of T) (hr.mono (by decide)) rfl T.m_lines_of T.F_lines_of.kp T.bd_lines_of .nil pass0 (pa_cons (pv 1) pa_nil)) pa_nil)) (pa_cons (pe_call (ok_lines_of T) (hr.mono (by decide)) rfl T.m_lines_of T.F_lines_of.kp T.bd_lines_of .nil pass0 (pa_cons (pv 2) pa_nil)) (pa_cons (pv 0) pa_nil)))))), ?_⟩
    refine ⟨_, rfl, a, t, rfl, ha, by omega, fun H2 pr s2 hrows => ?_⟩
    refine ⟨pr, _, wd, rfl, hrows, hRect, fun H3 ps s3 hps hsl => ?_⟩
    refine ⟨_, rfl, b, wn, rfl, (s2.trans s3).seq hb, by omega, fun H4 pw s4 hwords => ?_⟩
    refine ⟨_, rfl, ?_⟩
    intro xn dn nx ndx nex
    refine ⟨xn, dn, ps, pw, n, rfl, upd_same, fun H6 q h6 hq6 hq keep => ⟨rfl, ?_⟩⟩
    have s46 : Same H4 H6 := Same.made nx ndx keep
    have hq4 : H4 q = none := by
      cases e : H4 q with
      | none => rfl
      | some o =>
        have n1 : q ≠ xn := fun z => by rw [z, upd_same] at hq; cases hq
        have n2 : q ≠ dn := fun z => by rw [z, upd_ne nex, upd_same] at hq; cases hq
        rw [upd_ne n1, upd_ne n2, e] at hq; cases hq
    have sd : Same H4 (Hd H6 xn q) := (s46.toHid nx).toHid hq4
    refine k H6 xn q ⟨dn, ps, pw, h6, hq6, (hsl.same s4).same sd, hwords.same sd⟩ (((s2.trans s3).trans s4).trans sd)
/-- back to the light before -/
def sp_Search_step_back (C CS : Addr) : Sp := fun vs H Q _ => ∃ (x q : Addr) (sl : List Cf.SlotD) (W : List (List Int)) (st : List Nat) (k tr : Nat) (bg : Bool), vs = [.ref x] ∧ SearchAt C CS H x q sl W st k tr bg ∧
  (st = [] → Q (.bl false) H) ∧ ∀ r c, st = r ++ [c] → ∀ H', SearchAt C CS H' x q sl W r (c + 1) tr bg → Same (Hd H x q) (Hd H' x q) → Q (.bl true) H'
theorem ok_Search_step_back (T : Txt K mg A) : FnOk P w K mg base CX0 1 A.a_Search_step_back A.d_Search_step_back ["self"] (sp_Search_step_back A.c_Search A.c_Slot) := by
  refine T.F_Search_step_back.ok sc_Search_step_back (fun vs H Q E h => ?_) (fun cdv Ar outer s H vs Q E hr h => ?_)
  · obtain ⟨x, q, sl, W, st, k, tr, bg, rfl, _⟩ := h
    rfl
  · obtain ⟨x, q, sl, W, st, k, tr, bg, rfl, hS, k1, k2⟩ := h
    obtain ⟨dx, ps, pw, hx, hq, hsl, hW⟩ := hS.ex
    refine ⟨_, (pss_cons (ps_if (pt_cmpR op_eq (pe_callB call_len_seq rfl T.b_len PySem.boot_len (pa_cons (pe_fld (pv 0) rfl) pa_nil)) pe_int (nomark _)) (pss_one (ps_ret pe_bl)) pss_nil)
  (pss_cons (ps_fld (pv 0) (pe_op op_add (pe_bm0 PySem.F.plainAttrs_list PySem.F.slot_list_pop PySem.F.type_list_pop mt_pop (pe_fld (pv 0) rfl)) pe_int) rfl)
  (pss_one (ps_ret pe_bl)))), ?_⟩
    refine ⟨_, rfl, x, A.c_Search, dx, _, _, rfl, hx, T.cl_Search, T.n_Search_standing, sl_standing _ _ _ _ _ _, q, _, rfl, .inl (SqL.of hq), rfl, _, rfl, ite2 (fun h => ?_) (fun h => ?_)⟩
    · have h0 : ((natsV st).length : Int) = 0 := by simpa using h
      have : st = [] := by
        unfold natsV at h0
        rw [List.length_map] at h0
        exact List.length_eq_zero_iff.mp (by omega)
      exact k1 this
    · have h0 : ¬ ((natsV st).length : Int) = 0 := by simpa using h
      obtain ⟨r, c, rfl⟩ : ∃ r c, st = r ++ [c] := by
        rcases List.eq_nil_or_concat st with z | ⟨r, c, z⟩
        · rw [z] at h0; exact absurd rfl h0
        · exact ⟨r, c, by rw [z]; simp⟩
      have hlast : (natsV (r ++ [c]))[(natsV (r ++ [c])).length - 1]? = some (.int (c : Nat)) := by unfold natsV; simp
      refine ⟨_, rfl, x, A.c_Search, dx, _, _, rfl, hx, T.cl_Search, T.n_Search_standing, sl_standing _ _ _ _ _ _, .inl ⟨rfl, _, SqL.of hq⟩, q, _, _, rfl, rfl, hq, hlast, _, _, rfl, rfl, ?_⟩
      have nxq : x ≠ q := ne_of hx hq (by intro z; cases z)
      have edl : (natsV (r ++ [c])).dropLast = natsV r := by unfold natsV; rw [List.map_append]; simp
      rw [edl]
      refine ⟨_, rfl, x, A.c_Search, dx, _, rfl, by rw [upd_ne nxq]; exact hx, T.cl_Search, T.n_Search_number, by show 6 < 1000; decide, ?_⟩
      have e1 : (V.int (((c : Nat) : Int) + 1)) = V.int ((c + 1 : Nat) : Int) := by congr 1
      dsimp only
      rw [e1, sfs_number]
      refine k2 r c rfl _ ⟨dx, ps, pw, upd_same, by rw [upd_ne nxq.symm, upd_same], ?_, ?_⟩ ?_
      · rw [Hd_x, Hd_q]; exact hsl
      · rw [Hd_x, Hd_q]; exact hW
      · rw [Hd_x, Hd_q]; exact Same.refl _
def sp_Search_try_word (C CS CE : Addr) : Sp := fun vs H Q E => ∃ (x q : Addr) (sl : List Cf.SlotD) (W : List (List Int)) (st : List Nat) (k tr : Nat) (bg : Bool), vs = [.ref x] ∧ SearchAt C CS H x q sl W st k tr bg ∧ Cf.SlotsOk sl ∧ sl.length ≤ 200 ∧ st.length < sl.length ∧ Cf.Valid sl W st ∧
  (tr = 0 → E (.ref CE) none H) ∧ ∀ t1, tr = t1 + 1 → ∀ H', SearchAt C CS H' x q sl W (if Cf.wrongM sl W st k = 0 then st ++ [k] else st) (if Cf.wrongM sl W st k = 0 then 0 else k + 1) t1 bg → Same (Hd H x q) (Hd H' x q) → Q .non H'
theorem ok_Search_try_word (T : Txt K mg A) : FnOk P w K mg base (CX1 P w A.c_TooFewTrials) 3 A.a_Search_try_word A.d_Search_try_word ["self"] (sp_Search_try_word A.c_Search A.c_Slot A.c_TooFewTrials) := by
  refine T.F_Search_try_word.okX sc_Search_try_word (fun vs H Q E h => ?_) (fun cdv Ar outer s H vs Q E hr h => ?_)
  · obtain ⟨x, q, sl, W, st, k, tr, bg, rfl, _⟩ := h
    rfl
  · obtain ⟨x, q, sl, W, st, k, tr, bg, rfl, hS, hok, h200, hlt, hv, k1, k2⟩ := h
    obtain ⟨dx, ps, pw, hx, hq, hsl, hW⟩ := hS.ex
    have nxq : x ≠ q := ne_of hx hq (by intro z; cases z)
    refine ⟨_, (pss_cons (ps_if (pt_cmpR op_eq (pe_fld (pv 0) rfl) pe_int (nomark _)) (pss_one (ps_raise rfl T.m_TooFewTrials T.x_TooFewTrials)) pss_nil)
  (pss_cons (ps_fld (pv 0) (pe_op op_sub (pe_fld (pv 0) rfl) pe_int) rfl)
  (pss_one (ps_if (pt_cmpR op_eq (pe_call (ok_wrong_with T) (hr.mono (by decide)) rfl T.m_wrong_with T.F_wrong_with.kp T.bd_wrong_with .nil pass0 (pa_cons (pe_fld (pv 0) rfl) (pa_cons (pe_fld (pv 0) rfl) (pa_cons (pe_fld (pv 0) rfl) (pa_cons (pe_fld (pv 0) rfl) pa_nil))))) (pe_globI rfl T.g_NOTHING_WRONG) (nomark _)) (pss_cons (ps_expr (pe_bm PySem.F.plainAttrs_list PySem.F.slot_list_append PySem.F.type_list_append mt_append (pe_fld (pv 0) rfl) (pa_cons (pe_fld (pv 0) rfl) pa_nil)))
  (pss_one (ps_fld (pv 0) pe_int rfl))) (pss_one (ps_fld (pv 0) (pe_op op_add (pe_fld (pv 0) rfl) pe_int) rfl)))))), ?_⟩
    refine ⟨_, rfl, x, A.c_Search, dx, _, _, rfl, hx, T.cl_Search, T.n_Search_trials, sl_trials _ _ _ _ _ _, rfl, _, rfl, ite2 (fun h => ?_) (fun h => ?_)⟩
    · have h0 : (tr : Int) = 0 := by simpa using h
      exact k1 (by omega)
    · have h0 : ¬ (tr : Int) = 0 := by simpa using h
      obtain ⟨t1, rfl⟩ : ∃ t1, tr = t1 + 1 := ⟨tr - 1, by omega⟩
      have k2 := k2 t1 rfl
      refine ⟨_, rfl, x, A.c_Search, dx, _, _, rfl, hx, T.cl_Search, T.n_Search_trials, sl_trials _ _ _ _ _ _, _, _, rfl, rfl, _, rfl, x, A.c_Search, dx, _, rfl, hx, T.cl_Search, T.n_Search_trials, by show 6 < 1000; decide, ?_⟩
      have e1 : V.int ((((t1 + 1 : Nat)) : Int) - 1) = V.int ((t1 : Nat) : Int) := by congr 1; omega
      dsimp only
      rw [e1, sfs_trials]
      have hq1 : (upd H x (.ins A.c_Search dx (sfs ps pw t1 q k bg))) q = some (.lst (natsV st)) := by rw [upd_ne nxq.symm]; exact hq
      have hd1 : Hd (upd H x (.ins A.c_Search dx (sfs ps pw t1 q k bg))) x q = Hd H x q := Hd_x
      have sd1 : Same (Hd H x q) (upd H x (.ins A.c_Search dx (sfs ps pw t1 q k bg))) := by rw [← hd1]; exact Hd_same
      have fx : (upd H x (.ins A.c_Search dx (sfs ps pw t1 q k bg))) x = some (.ins A.c_Search dx (sfs ps pw t1 q k bg)) := upd_same
      refine ⟨_, rfl, x, A.c_Search, dx, _, _, rfl, fx, T.cl_Search, T.n_Search_slots, sl_slots _ _ _ _ _ _, ?_⟩
      refine ⟨_, rfl, x, A.c_Search, dx, _, _, rfl, fx, T.cl_Search, T.n_Search_words, sl_words _ _ _ _ _ _, ?_⟩
      refine ⟨_, rfl, x, A.c_Search, dx, _, _, rfl, fx, T.cl_Search, T.n_Search_standing, sl_standing _ _ _ _ _ _, ?_⟩
      refine ⟨_, rfl, x, A.c_Search, dx, _, _, rfl, fx, T.cl_Search, T.n_Search_number, sl_number _ _ _ _ _ _, ?_⟩
      refine ⟨ps, pw, q, sl, W, st, k, rfl, hsl.same sd1, hok, hW.same sd1, hq1, hlt, hv, ?_⟩
      refine ⟨rfl, _, rfl, ite2 (fun h => ?_) (fun h => ?_)⟩
      · have hz : Cf.wrongM sl W st k = 0 := by
          have : ((Cf.wrongM sl W st k : Nat) : Int) = 0 := by simpa using h
          omega
        rw [if_pos hz, if_pos hz] at k2
        refine ⟨_, rfl, x, A.c_Search, dx, _, _, rfl, fx, T.cl_Search, T.n_Search_standing, sl_standing _ _ _ _ _ _, .inl ⟨rfl, _, SqL.of hq1⟩, _, rfl, x, A.c_Search, dx, _, _, rfl, fx, T.cl_Search, T.n_Search_number, sl_number _ _ _ _ _ _, q, _, _, rfl, rfl, hq1, small (by unfold natsV; rw [List.length_map]; omega), ?_⟩
        have fx2 : (upd (upd H x (.ins A.c_Search dx (sfs ps pw t1 q k bg))) q (.lst (natsV st ++ [.int (k : Nat)]))) x = some (.ins A.c_Search dx (sfs ps pw t1 q k bg)) := by rw [upd_ne nxq]; exact upd_same
        refine ⟨_, rfl, x, A.c_Search, dx, _, rfl, fx2, T.cl_Search, T.n_Search_number, by show 6 < 1000; decide, ?_⟩
        have e2 : (V.int 0) = V.int ((0 : Nat) : Int) := rfl
        dsimp only
        rw [e2, sfs_number]
        refine k2 _ ⟨dx, ps, pw, upd_same, ?_, ?_, ?_⟩ ?_
        · rw [upd_ne nxq.symm, upd_same]
          unfold natsV
          rw [List.map_append]
          rfl
        · rw [Hd_x, Hd_q, Hd_x]; exact hsl
        · rw [Hd_x, Hd_q, Hd_x]; exact hW
        · rw [Hd_x, Hd_q, Hd_x]; exact Same.refl _
      · have hz : ¬ Cf.wrongM sl W st k = 0 := fun z => h (by rw [z]; simp)
        rw [if_neg hz, if_neg hz] at k2
        refine ⟨_, rfl, x, A.c_Search, dx, _, _, rfl, fx, T.cl_Search, T.n_Search_number, sl_number _ _ _ _ _ _, _, _, rfl, rfl, _, rfl, x, A.c_Search, dx, _, rfl, fx, T.cl_Search, T.n_Search_number, by show 6 < 1000; decide, ?_⟩
        have e2 : V.int (((k : Nat) : Int) + 1) = V.int ((k + 1 : Nat) : Int) := by congr 1
        dsimp only
        rw [e2, sfs_number]
        refine k2 _ ⟨dx, ps, pw, upd_same, ?_, ?_, ?_⟩ ?_
        · rw [upd_ne nxq.symm]; exact hq1
        · rw [Hd_x, Hd_x]; exact hsl
        · rw [Hd_x, Hd_x]; exact hW
        · rw [Hd_x, Hd_x]; exact Same.refl _
end
end S
end
section
set_option Elab.async false
set_option linter.all false
set_option maxRecDepth 100000
set_option maxHeartbeats 2000000
namespace S
open PySem PySem.Spec PyProof.Rows L2
-- needs: search
section
variable {P : Program} {w : World} {K : PySem.W.Frag} {mg : Str → Option Value} {base : Heap} {A : Adr}
/-- what a search's next step comes to -/
def nextF (R W : List (List Int)) (wd : Nat) (st : List Nat) (tr : Nat) (bg : Bool) : ClFill.Found := if bg = true then ClFill.nextOf (Cf.wordsOf W) (ClFill.turnsOf (Cf.gridOf R wd) (Cf.wordsOf W)) tr st else ClFill.firstOf (Cf.wordsOf W) (ClFill.turnsOf (Cf.gridOf R wd) (Cf.wordsOf W)) tr
/-- as a search stands between its steps -/
structure Rests (C CS : Addr) (H : Hp) (x q : Addr) (R W : List (List Int)) (wd : Nat) (st : List Nat) (tr : Nat) (bg : Bool) : Prop where
  rect : Cf.Rect R wd
  words : Cf.AreWords W
  at_ : SearchAt C CS H x q (Cf.slotsM R (Cf.gridOf R wd).lights) W st 0 tr bg
  valid : Cf.Valid (Cf.slotsM R (Cf.gridOf R wd).lights) W st
  len : (bg = true ∧ st.length = (Cf.gridOf R wd).lights.length) ∨ (bg = false ∧ st = [])
/-- what is wanted of each end -/
def FollowQ (C CS CE : Addr) (H : Hp) (x q : Addr) (R W : List (List Int)) (wd : Nat) (F : ClFill.Found) (Q : VK) (E : XK) : Prop := match F with
  | .filling f left => ∀ H' p, Rests C CS H' x q R W wd f left true → Same (Hd H x q) (Hd H' x q) → H' p = some (.lst (natsV f)) → p ≠ q → Q (.ref p) H'
  | .none => ∀ H', Same (Hd H x q) (Hd H' x q) → Q .non H'
  | .out => ∀ H', E (.ref CE) none H'
def sp_Search_following (C CS CE : Addr) : Sp := fun vs H Q E => ∃ (x q : Addr) (R W : List (List Int)) (wd : Nat) (st : List Nat) (tr : Nat) (bg : Bool), vs = [.ref x] ∧ Rests C CS H x q R W wd st tr bg ∧ FollowQ C CS CE H x q R W wd (nextF R W wd st tr bg) Q E
theorem SearchAt.same {C CS : Addr} {H H' : Hp} {x q : Addr} {sl : List Cf.SlotD} {W : List (List Int)} {st : List Nat} {k tr : Nat} {bg : Bool} (s : Same H H') (h : SearchAt C CS H x q sl W st k tr bg) : SearchAt C CS H' x q sl W st k tr bg := by
  obtain ⟨dx, ps, pw, h1, h2, h3, h4⟩ := h.ex
  exact ⟨dx, ps, pw, s _ _ h1, s _ _ h2, h3.same (Hd_mono s), h4.same (Hd_mono s)⟩
/-- amid the search -/
def FInv (C CS CE : Addr) (H : Hp) (x q : Addr) (R W : List (List Int)) (wd : Nat) (Q : VK) (E : XK) (bg : Bool) (m : Nat) (H' : Hp) : Prop :=
  ∃ (st' : List Nat) (k' tr' : Nat), SearchAt C CS H' x q (Cf.slotsM R (Cf.gridOf R wd).lights) W st' k' tr' bg ∧ Cf.Valid (Cf.slotsM R (Cf.gridOf R wd).lights) W st' ∧ st'.length ≤ (Cf.gridOf R wd).lights.length ∧ (st'.length = (Cf.gridOf R wd).lights.length → k' = 0) ∧
    Same (Hd H x q) (Hd H' x q) ∧ FollowQ C CS CE H x q R W wd (Cf.resS (Cf.wordsOf W) (ClFill.turnsOf (Cf.gridOf R wd) (Cf.wordsOf W)) st' k' tr') Q E ∧ m = tr' * ((Cf.gridOf R wd).lights.length + 2) + st'.length
/-- two ways come together -/
theorem joinG {Z : Prop} {Pre : Hp → Prop} (G : Hp → Prop) (use : (∀ H, Pre H → G H) → Z) (mk : ∀ H, Pre H → G H) : Z := use mk
theorem ok_Search_following (T : Txt K mg A) : FnOk P w K mg base (CX1 P w A.c_TooFewTrials) 4 A.a_Search_following A.d_Search_following ["self"] (sp_Search_following A.c_Search A.c_Slot A.c_TooFewTrials) := by
  refine T.F_Search_following.okX sc_Search_following (fun vs H Q E h => ?_) (fun cdv Ar outer s H vs Q E hr h => ?_)
  · obtain ⟨x, q, R, W, wd, st, tr, bg, rfl, _⟩ := h
    rfl
  · obtain ⟨x, q, R, W, wd, st, tr, bg, rfl, hS, k⟩ := h
    obtain ⟨hRect, hWs, hat, hv, hbl⟩ := hS
    have htl := Cf.turns_len (Cf.gridOf R wd) (Cf.wordsOf W)
    have hsl := Cf.slots_len R (Cf.gridOf R wd).lights
    have hwl : (Cf.wordsOf W).length = W.length := by unfold Cf.wordsOf; rw [List.length_map]
    have hcount := Cf.lights_count hRect
    refine ⟨_, (pss_cons (ps_if (PW.pt (pw_and (pt_val (pe_fld (pv 0) rfl)) (pw_and1 (pt_not (pt_val (pe_meth0 (pv 0) T.cl_Search T.me_Search_step_back (ok_Search_step_back T) (hr.mono (by decide)) T.bd_Search_step_back .nil pass0)))))) (pss_one (ps_ret pe_non)) pss_nil)
  (pss_cons (ps_fld (pv 0) pe_bl rfl)
  (pss_cons (ps_while PassesOwn.leaving (pt_cmpR op_lt (pe_callB call_len_seq rfl T.b_len PySem.boot_len (pa_cons (pe_fld (pv 0) rfl) pa_nil)) (pe_callB call_len_seq rfl T.b_len PySem.boot_len (pa_cons (pe_fld (pv 0) rfl) pa_nil)) (nomark _)) (pss_one (ps_if (pt_cmpR op_lt (pe_fld (pv 0) rfl) (pe_callB call_len_seq rfl T.b_len PySem.boot_len (pa_cons (pe_fld (pv 0) rfl) pa_nil)) (nomark _)) (pss_one (ps_expr (pe_meth0 (pv 0) T.cl_Search T.me_Search_try_word (ok_Search_try_word T) (hr.mono (by decide)) T.bd_Search_try_word .nil pass1))) (pss_one (ps_if (pt_not (pt_val (pe_meth0 (pv 0) T.cl_Search T.me_Search_step_back (ok_Search_step_back T) (hr.mono (by decide)) T.bd_Search_step_back .nil pass0))) (pss_one (ps_ret pe_non)) pss_nil)))))
  (pss_one (ps_ret (pe_callTy call_list_of rfl T.b_list boot_listC (pa_cons (pe_fld (pv 0) rfl) pa_nil))))))), ?_⟩
    obtain ⟨dx0, ps0, pw0, hx0, hq0, hsl0, hW0⟩ := hat.ex
    refine ⟨_, rfl, x, A.c_Search, dx0, _, _, rfl, hx0, T.cl_Search, T.n_Search_begun, sl_begun _ _ _ _ _ _, _, rfl, ?_⟩
    refine' joinG (Pre := fun H1 => ∃ bg m, FInv A.c_Search A.c_Slot A.c_TooFewTrials H x q R W wd Q E bg m H1) _ ?use ?mk
    case use =>
      intro loop
      rcases hbl with ⟨rfl, hlen⟩ | ⟨rfl, rfl⟩
      · refine ite2 (fun _ => ?_) (fun z => absurd rfl z)
        refine ⟨_, rfl, x, dx0, _, rfl, hx0, sl_step_back _ _ _ _ _ _, x, q, _, W, st, 0, tr, true, rfl, hat, fun e => ?_, fun r c e H1 hat1 sm1 => ?_⟩
        · subst e
          refine ⟨_, rfl, ite2 (fun _ => ?_) (fun z => absurd (by decide) z)⟩
          exact k H (Same.refl _)
        subst e
        refine ⟨_, rfl, ite2 (fun z => absurd z (by decide)) (fun _ => ?_)⟩
        have hlt1 : r.length < (Cf.gridOf R wd).lights.length := by simp at hlen; omega
        refine loop H1 ⟨true, _, r, c + 1, tr, hat1, fun j n hj => hv j n (by rw [List.getElem?_append_left (List.getElem?_eq_some_iff.mp hj).1]; exact hj), Nat.le_of_lt hlt1, fun z => by omega, sm1, ?_, rfl⟩
        rw [← Cf.next_res _ _ _ _ _ (by omega)]
        exact k
      · refine ite2 (fun z => absurd z (by decide)) (fun _ => ?_)
        refine ite2 (fun z => absurd z (by decide)) (fun _ => ?_)
        refine loop H ⟨false, _, [], 0, tr, hat, hv, Nat.zero_le _, fun _ => rfl, Same.refl _, ?_, rfl⟩
        rw [← Cf.first_res]
        exact k
    case mk =>
      rintro H1 ⟨bg1, m1, st1, k1, tr1, hat1, hv1, hle1, hk1, sm1, kk, hm1⟩
      obtain ⟨dx1, ps1, pw1, hx1, hq1, hsl1, hW1⟩ := hat1.ex
      have nxq1 : x ≠ q := ne_of hx1 hq1 (by intro z; cases z)
      refine ⟨_, rfl, x, A.c_Search, dx1, _, rfl, hx1, T.cl_Search, T.n_Search_begun, by show 6 < 1000; decide, ?_⟩
      rw [sfs_begun]
      refine ⟨fun m σ H' => σ = [some (.ref x)] ∧ FInv A.c_Search A.c_Slot A.c_TooFewTrials H x q R W wd Q E true m H',
        ⟨m1, rfl, st1, k1, tr1, ⟨dx1, ps1, pw1, upd_same, by rw [upd_ne nxq1.symm]; exact hq1, by rw [Hd_x]; exact hsl1, by rw [Hd_x]; exact hW1⟩, hv1, hle1, hk1, by rw [Hd_x]; exact sm1, kk, hm1⟩, ?_⟩
      rintro m σ H2 ⟨rfl, st', k', tr', hat2, hv2, hle2, hk2, sm2, kk2, rfl⟩
      obtain ⟨dx, ps, pw, hx, hq, hsl', hW'⟩ := hat2.ex
      obtain ⟨as, hps, hal⟩ := (hsl'.same Hd_same).ex
      obtain ⟨ws, hpw, hws⟩ := (hW'.same Hd_same).ex
      have hlas := hal.length
      have hlws := hws.length
      have hnl : (natsV st').length = st'.length := by unfold natsV; rw [List.length_map]
      refine ⟨_, rfl, x, A.c_Search, dx, _, _, rfl, hx, T.cl_Search, T.n_Search_standing, sl_standing _ _ _ _ _ _, q, _, rfl, .inl (SqL.of hq), _, rfl, x, A.c_Search, dx, _, _, rfl, hx, T.cl_Search, T.n_Search_slots, sl_slots _ _ _ _ _ _, ps, _, rfl, .inl (SqL.of hps), _, _, rfl, rfl, _, rfl, ite2 (fun h => ?_) (fun h => ?_)⟩
      · have h0 : ((natsV st').length : Int) < ((as.map V.ref).length : Int) := of_decide_eq_true h
        rw [List.length_map, hnl] at h0
        have hlt : st'.length < (Cf.gridOf R wd).lights.length := by omega
        refine ⟨fun σ' H' => ∃ m', m' < tr' * ((Cf.gridOf R wd).lights.length + 2) + st'.length ∧ σ' = [some (.ref x)] ∧ FInv A.c_Search A.c_Slot A.c_TooFewTrials H x q R W wd Q E true m' H', fun σ' H' z => z, ?_⟩
        refine ⟨_, rfl, x, A.c_Search, dx, _, _, rfl, hx, T.cl_Search, T.n_Search_number, sl_number _ _ _ _ _ _, _, rfl, x, A.c_Search, dx, _, _, rfl, hx, T.cl_Search, T.n_Search_words, sl_words _ _ _ _ _ _, pw, _, rfl, .inl (SqL.of hpw), _, _, rfl, rfl, _, rfl, ite2 (fun h => ?_) (fun h => ?_)⟩
        · have h1 : ((k' : Nat) : Int) < ((ws.map V.ref).length : Int) := of_decide_eq_true h
          rw [List.length_map] at h1
          have hkW : k' < W.length := by omega
          refine ⟨_, rfl, x, dx, _, rfl, hx, sl_try_word _ _ _ _ _ _, x, q, _, W, st', k', tr', true, rfl, hat2, Cf.slots_ok R _, by omega, by omega, hv2, fun e => ?_, fun t1 e H3 hat3 sm3 => ?_⟩
          · subst e
            rw [Cf.res_out _ _ _ _ (by omega) (by omega)] at kk2
            exact kk2 H2
          · subst e
            rw [Cf.res_step hRect hWs hv2 hlt hkW] at kk2
            have hmul : (t1 + 1) * ((Cf.gridOf R wd).lights.length + 2) = t1 * ((Cf.gridOf R wd).lights.length + 2) + ((Cf.gridOf R wd).lights.length + 2) := Nat.succ_mul _ _
            by_cases hz : Cf.wrongM (Cf.slotsM R (Cf.gridOf R wd).lights) W st' k' = 0
            · rw [if_pos hz] at kk2
              rw [if_pos hz, if_pos hz] at hat3
              refine ⟨_, ?_, rfl, st' ++ [k'], 0, t1, hat3, Cf.valid_snoc hv2 (by omega) hz, by simp; omega, fun _ => rfl, sm2.trans sm3, kk2, rfl⟩
              rw [hmul, List.length_append, List.length_singleton]
              omega
            · rw [if_neg hz] at kk2
              rw [if_neg hz, if_neg hz] at hat3
              refine ⟨_, ?_, rfl, st', k' + 1, t1, hat3, hv2, hle2, fun z => by omega, sm2.trans sm3, kk2, rfl⟩
              rw [hmul]
              omega
        · have h1 : ¬ ((k' : Nat) : Int) < ((ws.map V.ref).length : Int) := fun z => h (decide_eq_true z)
          rw [List.length_map] at h1
          have hkW : ¬ k' < (Cf.wordsOf W).length := by omega
          refine ⟨_, rfl, x, dx, _, rfl, hx, sl_step_back _ _ _ _ _ _, x, q, _, W, st', k', tr', true, rfl, hat2, fun e => ?_, fun r2 c2 e H3 hat3 sm3 => ?_⟩
          · subst e
            refine ⟨_, rfl, ite2 (fun _ => ?_) (fun z => absurd (by decide) z)⟩
            rw [Cf.res_end _ _ _ _ (by simp at hlt; omega) hkW] at kk2
            exact kk2 H2 sm2
          · subst e
            refine ⟨_, rfl, ite2 (fun z => absurd z (by decide)) (fun _ => ?_)⟩
            rw [Cf.res_back _ _ _ _ _ _ (by omega) hkW] at kk2
            have hl2 : r2.length + 1 ≤ (Cf.gridOf R wd).lights.length := by simp at hle2; omega
            refine ⟨_, ?_, rfl, r2, c2 + 1, tr', hat3, fun j n hj => hv2 j n (by rw [List.getElem?_append_left (List.getElem?_eq_some_iff.mp hj).1]; exact hj), by omega, fun z => by omega, sm2.trans sm3, kk2, rfl⟩
            rw [List.length_append, List.length_singleton]
            omega
      · have h0 : ¬ ((natsV st').length : Int) < ((as.map V.ref).length : Int) := fun z => h (decide_eq_true z)
        rw [List.length_map, hnl] at h0
        have heq : st'.length = (Cf.gridOf R wd).lights.length := by omega
        have hk0 := hk2 heq
        subst hk0
        have hres : Cf.resS (Cf.wordsOf W) (ClFill.turnsOf (Cf.gridOf R wd) (Cf.wordsOf W)) st' 0 tr' = .filling st' tr' := by unfold Cf.resS; rw [if_neg (by omega)]
        rw [hres] at kk2
        refine ⟨_, rfl, x, A.c_Search, dx, _, _, rfl, hx, T.cl_Search, T.n_Search_standing, sl_standing _ _ _ _ _ _, q, _, rfl, .inl (SqL.of hq), fun p hp => ?_⟩
        have sp := Same.upd (o := .lst (natsV st')) hp
        exact kk2 _ p ⟨hRect, hWs, hat2.same sp, hv2, .inl ⟨rfl, heq⟩⟩ (sm2.trans (Hd_mono sp)) upd_same (ne_of_none hq hp).symm
end
end S
end
section
set_option Elab.async false
set_option linter.all false
set_option maxRecDepth 100000
set_option maxHeartbeats 2000000
namespace S
open PySem PySem.Spec PyProof.Rows L2
-- needs: letter
section
variable {P : Program} {w : World} {K : PySem.W.Frag} {mg : Str → Option Value} {base : Heap} {A : Adr}
def sp_is_cell : Sp := fun vs H Q _ => ∃ b : Int, vs = [.int b] ∧ Q (.bl (Cf.isCellI b)) H
theorem ok_is_cell (T : Txt K mg A) : FnOk P w K mg base CX0 2 A.a_is_cell A.d_is_cell ["byte"] sp_is_cell := by
  refine T.F_is_cell.ok sc_is_cell (fun vs H Q E h => ?_) (fun cdv Ar outer s H vs Q E hr h => ?_)
  · obtain ⟨b, rfl, _⟩ := h
    rfl
  · obtain ⟨b, rfl, k⟩ := h
    refine ⟨_, (pss_one (ps_ret (pe_or (pe_cmpR op_eq (pv 0) (pe_globI rfl T.g_BLOCK) (nomark _)) (pe_or (pe_cmpR op_eq (pv 0) (pe_globI rfl T.g_WHITE) (nomark _)) (pe_one (pe_call (ok_is_letter T) (hr.mono (by decide)) rfl T.m_is_letter T.F_is_letter.kp T.bd_is_letter .nil pass0 (pa_cons (pv 0) pa_nil))))))), ?_⟩
    refine ⟨_, rfl, rfl, _, rfl, ite2 (fun h => ?_) (fun h1 => ?_)⟩
    · have e : Cf.isCellI b = true := by
        have : b = 35 := by simpa using h
        subst this; decide
      rw [e] at k
      exact k
    · refine ⟨_, rfl, rfl, _, rfl, ite2 (fun h => ?_) (fun h2 => ?_)⟩
      · have e : Cf.isCellI b = true := by
          have : b = 46 := by simpa using h
          subst this; decide
        rw [e] at k
        exact k
      · have n1 : ¬ b = 35 := by simpa using h1
        have n2 : ¬ b = 46 := by simpa using h2
        refine ⟨_, rfl, b, rfl, ?_⟩
        have e : Cf.isCellI b = Cf.isLetI b := by
          unfold Cf.isCellI Cf.isLetI
          rw [decide_eq_false n1, decide_eq_false n2]
          simp
        rw [e] at k
        exact k
def sp_may_follow_texts : Sp := fun vs H Q _ => ∃ (b : Int) (row col least most : Nat), vs = [.int b, .int row, .int col, .int least, .int most] ∧ Q (.bl (Cf.mayF b row col least most)) H
theorem ok_may_follow_texts (T : Txt K mg A) : FnOk P w K mg base CX0 3 A.a_may_follow_texts A.d_may_follow_texts ["byte", "row", "column", "least", "most"] sp_may_follow_texts := by
  refine T.F_may_follow_texts.ok sc_may_follow_texts (fun vs H Q E h => ?_) (fun cdv Ar outer s H vs Q E hr h => ?_)
  · obtain ⟨b, r, c, l, m, rfl, _⟩ := h
    rfl
  · obtain ⟨b, r, c, l, m, rfl, k⟩ := h
    refine ⟨_, (pss_cons (ps_if (pt_cmpR op_eq (pv 1) (pe_globI rfl T.g_MOST_SIDE) (nomark _)) (pss_one (ps_ret pe_bl)) pss_nil)
  (pss_cons (ps_if (pt_cmpR op_eq (pv 0) (pe_globI rfl T.g_LINE_END) (nomark _)) (pss_one (ps_ret (pe_cmpR op_ge (pv 2) (pv 3) (nomark _)))) pss_nil)
  (pss_one (ps_ret (pe_and (pe_call (ok_is_cell T) (hr.mono (by decide)) rfl T.m_is_cell T.F_is_cell.kp T.bd_is_cell .nil pass0 (pa_cons (pv 0) pa_nil)) (pe_one (pe_cmpR op_lt (pv 2) (pv 4) (nomark _)))))))), ?_⟩
    refine ⟨_, rfl, rfl, _, rfl, ite2 (fun h => ?_) (fun h1 => ?_)⟩
    · have e : Cf.mayF b r c l m = false := by
        have : (r : Int) = 9 := by simpa using h
        have : r = 9 := by omega
        subst this; rfl
      rw [e] at k
      exact k
    · have n1 : ¬ r = 9 := by
        have : ¬ (r : Int) = 9 := by simpa using h1
        omega
      refine ⟨_, rfl, rfl, _, rfl, ite2 (fun h => ?_) (fun h2 => ?_)⟩
      · have e10 : b = 10 := by simpa using h
        refine ⟨_, rfl, _, rfl, _, _, rfl, rfl, ?_⟩
        have e : Cf.mayF b r c l m = decide ((l : Int) ≤ c) := by
          unfold Cf.mayF
          rw [if_neg n1, if_pos e10]
          simp
        rw [e] at k
        exact k
      · have n2 : ¬ b = 10 := by simpa using h2
        refine ⟨_, rfl, b, rfl, _, rfl, ite2 (fun h3 => ?_) (fun h3 => ?_)⟩
        · refine ⟨_, rfl, _, rfl, _, _, rfl, rfl, ?_⟩
          have e : Cf.mayF b r c l m = decide ((c : Int) < m) := by
            unfold Cf.mayF
            rw [if_neg n1, if_neg n2, h3]
            simp
          rw [e] at k
          exact k
        · have e : Cf.mayF b r c l m = false := by
            unfold Cf.mayF
            rw [if_neg n1, if_neg n2]
            have : Cf.isCellI b = false := by simpa using h3
            rw [this]
            rfl
          rw [e] at k
          exact k
def sp_first_fault (K : PySem.W.Frag) : Sp := fun vs H Q _ => ∃ (a : Addr) (ns : List Int), vs = [.ref a] ∧ SqL K H a (ns.map V.int) ∧ ∀ H', Same H H' → Q (optV (Cf.faultM ns)) H'
theorem ok_first_fault (T : Txt K mg A) : FnOk P w K mg base CX0 4 A.a_first_fault A.d_first_fault ["t"] (sp_first_fault K) := by
  refine T.F_first_fault.ok sc_first_fault (fun vs H Q E h => ?_) (fun cdv Ar outer s H vs Q E hr h => ?_)
  · obtain ⟨a, ns, rfl, _⟩ := h
    rfl
  · obtain ⟨a, ns, rfl, hS, k⟩ := h
    refine ⟨_, (pss_cons (ps_set (i := 1) sc_first_fault.nd rfl (Or.inl rfl) pe_int)
  (pss_cons (ps_set (i := 2) sc_first_fault.nd rfl (Or.inl rfl) pe_int)
  (pss_cons (ps_set (i := 3) sc_first_fault.nd rfl (Or.inl rfl) (pe_globI rfl T.g_LEAST_SIDE))
  (pss_cons (ps_set (i := 4) sc_first_fault.nd rfl (Or.inl rfl) (pe_globI rfl T.g_MOST_SIDE))
  (pss_cons (ps_for PassesOwn.never rfl (pi_enum rfl T.b_enumerate (pa_cons (pv 0) pa_nil)) (pg_tup rfl (pgs_cons (pg_name (i := 5) sc_first_fault.nd rfl (Or.inl rfl)) (pgs_cons (pg_name (i := 6) sc_first_fault.nd rfl (Or.inl rfl)) pgs_nil)))
  (pss_cons (ps_if (pt_not (pt_val (pe_call (ok_may_follow_texts T) (hr.mono (by decide)) rfl T.m_may_follow_texts T.F_may_follow_texts.kp T.bd_may_follow_texts .nil pass0 (pa_cons (pv 6) (pa_cons (pv 1) (pa_cons (pv 2) (pa_cons (pv 3) (pa_cons (pv 4) pa_nil)))))))) (pss_one (ps_ret (pv 5))) pss_nil)
  (pss_one (ps_if (pt_cmpR op_eq (pv 6) (pe_globI rfl T.g_LINE_END) (nomark _)) (pss_cons (ps_set (i := 3) sc_first_fault.nd rfl (Or.inl rfl) (pv 2))
  (pss_cons (ps_set (i := 4) sc_first_fault.nd rfl (Or.inl rfl) (pv 2))
  (pss_cons (ps_set (i := 1) sc_first_fault.nd rfl (Or.inl rfl) (pe_op op_add (pv 1) pe_int))
  (pss_one (ps_set (i := 2) sc_first_fault.nd rfl (Or.inl rfl) pe_int))))) (pss_one (ps_set (i := 2) sc_first_fault.nd rfl (Or.inl rfl) (pe_op op_add (pv 2) pe_int)))))))
  (pss_cons (ps_if (PW.pt (pw_or (pt_cmpR op_gt (pv 2) pe_int (nomark _)) (pw_or1 (pt_cmpR op_lt (pv 1) (pe_globI rfl T.g_LEAST_SIDE) (nomark _))))) (pss_one (ps_ret (pe_callB call_len_seq rfl T.b_len PySem.boot_len (pa_cons (pv 0) pa_nil)))) pss_nil)
  (pss_one (ps_ret pe_non)))))))), ?_⟩
    refine ⟨_, rfl, a, _, rfl, hS, for_enum (K := K) (a := a) (xs := ns.map V.int) (fun i σ H' => ∃ (row col least most : Nat) (v5 v6 : Option V), σ = [some (.ref a), some (.int row), some (.int col), some (.int least), some (.int most), v5, v6] ∧ Same H H' ∧ Cf.faultM ns = Cf.faultGo (ns.drop i) i row col least most)
      ⟨0, 0, 2, 9, none, none, rfl, Same.refl _, rfl⟩ (fun i σ H' _ ⟨_, _, _, _, _, _, _, s5, _⟩ => s5.seq hS) ?_ ?_⟩
    · rintro i x σ H' Tp hi ⟨row, col, least, most, v5, v6, rfl, sm, ef⟩ hT
      obtain ⟨b, hb, rfl⟩ := ints_get hi
      have sm2 : Same H (upd H' Tp (.tup [.int (i : Nat), .int b])) := sm.trans (Same.upd hT)
      rw [drop_at hb] at ef
      refine ⟨Tp, _, rfl, SqT.of upd_same, rfl, _, _, rfl, _, _, rfl, rfl, ?_⟩
      refine ⟨_, rfl, _, rfl, _, rfl, _, rfl, _, rfl, b, row, col, least, most, rfl, _, rfl, ite2 (fun h => ?_) (fun h => ?_)⟩
      · have hm : ¬ Cf.mayF b row col least most = true := by simpa using h
        refine ⟨_, rfl, ?_⟩
        have := k _ sm2
        rw [ef] at this
        simp only [Cf.faultGo, if_neg hm] at this
        exact this
      · have hm : Cf.mayF b row col least most = true := by simpa using h
        simp only [Cf.faultGo, if_pos hm] at ef
        refine ⟨_, rfl, rfl, _, rfl, ite2 (fun h => ?_) (fun h => ?_)⟩
        · have e10 : b = 10 := by simpa using h
          rw [if_pos e10] at ef
          exact ⟨_, rfl, _, rfl, _, rfl, _, _, rfl, rfl, row + 1, 0, col, col, _, _, rfl, sm2, ef⟩
        · have e10 : ¬ b = 10 := by simpa using h
          rw [if_neg e10] at ef
          exact ⟨_, rfl, _, _, rfl, rfl, row, col + 1, least, most, _, _, rfl, sm2, ef⟩
    · rintro σ H' ⟨row, col, least, most, v5, v6, rfl, sm, ef⟩
      rw [List.length_map, List.drop_length] at ef
      have kk := k _ sm
      rw [ef] at kk
      simp only [Cf.faultGo] at kk
      have fin1 : (0 < col ∨ row < 2) → (tRet (tCB (fun xs H Q => ∃ p ys, xs = [.ref p] ∧ (SqL K H p ys ∨ SqT K H p ys) ∧ Q (.int ys.length) H) (tCons (tVar 0) tNil)) { nx := fun _ _ => False, rt := Q } [some (.ref a), some (.int row), some (.int col), some (.int least), some (.int most), v5, v6] H') := fun hh => by
        refine ⟨_, rfl, a, _, rfl, .inl (sm.seq hS), ?_⟩
        rw [if_pos hh] at kk
        rw [List.length_map]
        exact kk
      refine ⟨_, rfl, _, _, rfl, rfl, _, rfl, ite2 (fun h => ?_) (fun h => ?_)⟩
      · have : (0 : Int) < col := of_decide_eq_true h
        exact fin1 (.inl (by omega))
      · have h1 : ¬ (0 : Int) < col := fun z => h (decide_eq_true z)
        refine ⟨_, rfl, _, _, rfl, rfl, _, rfl, ite2 (fun h => ?_) (fun h => ?_)⟩
        · have : (row : Int) < 2 := of_decide_eq_true h
          exact fin1 (.inr (by omega))
        · have h2 : ¬ (row : Int) < 2 := fun z => h (decide_eq_true z)
          rw [if_neg (by omega)] at kk
          exact kk
def sp_refused_lattice (K : PySem.W.Frag) : Sp := fun vs H Q _ => ∃ (a : Addr) (ns : List Int), vs = [.ref a] ∧ SqL K H a (ns.map V.int) ∧ Refusal (-6) (Cf.faultM ns) H Q
theorem ok_refused_lattice (T : Txt K mg A) : FnOk P w K mg base CX0 5 A.a_refused_lattice A.d_refused_lattice ["t"] (sp_refused_lattice K) := by
  refine T.F_refused_lattice.ok sc_refused_lattice (fun vs H Q E h => ?_) (fun cdv Ar outer s H vs Q E hr h => ?_)
  · obtain ⟨a, ns, rfl, _⟩ := h
    rfl
  · obtain ⟨a, ns, rfl, hS, k⟩ := h
    refine ⟨_, (pss_cons (ps_set (i := 1) sc_refused_lattice.nd rfl (Or.inl rfl) (pe_call (ok_first_fault T) (hr.mono (by decide)) rfl T.m_first_fault T.F_first_fault.kp T.bd_first_fault .nil pass0 (pa_cons (pv 0) pa_nil)))
  (pss_cons (ps_if (pt_cmpR op_isN (pv 1) pe_non (nomark _)) (pss_one (ps_ret pe_non)) pss_nil)
  (pss_one (ps_ret (pe_lst (pa_cons (pe_globI rfl T.g_NO_LATTICE) (pa_cons (pv 1) pa_nil))))))), ?_⟩
    refine ⟨_, rfl, a, ns, rfl, hS, fun H1 s1 => ?_⟩
    cases e : Cf.faultM ns with
    | none =>
      rw [e] at k
      refine ⟨_, rfl, rfl, _, rfl, ite2 (fun h => k H1 s1) (fun h => absurd (decide_eq_true rfl) h)⟩
    | some f =>
      rw [e] at k
      refine ⟨_, rfl, rfl, _, rfl, ite2 (fun h => absurd h (by simp [optV])) (fun h => ?_)⟩
      refine ⟨_, rfl, by show 2 ≤ sizeLine; decide, fun q hq => k _ q (s1.trans (Same.upd hq)) (s1.free hq) upd_same⟩
end
end S
end
section
set_option Elab.async false
set_option linter.all false
set_option maxRecDepth 100000
set_option maxHeartbeats 2000000
namespace S
open PySem PySem.Spec PyProof.Rows L2
-- needs: letter
-- plain: CfM4
section
variable {P : Program} {w : World} {K : PySem.W.Frag} {mg : Str → Option Value} {base : Heap} {A : Adr}
def sp_may_follow_wordlists : Sp := fun vs H Q _ => ∃ (b : Int) (whole letters : Nat), vs = [.int b, .int whole, .int letters] ∧ Q (.bl (Cf.mayW b whole letters)) H
theorem ok_may_follow_wordlists (T : Txt K mg A) : FnOk P w K mg base CX0 2 A.a_may_follow_wordlists A.d_may_follow_wordlists ["byte", "whole", "letters"] sp_may_follow_wordlists := by
  refine T.F_may_follow_wordlists.ok sc_may_follow_wordlists (fun vs H Q E h => ?_) (fun cdv Ar outer s H vs Q E hr h => ?_)
  · obtain ⟨b, r, l, rfl, _⟩ := h
    rfl
  · obtain ⟨b, r, l, rfl, k⟩ := h
    refine ⟨_, (pss_cons (ps_if (pt_cmpR op_eq (pv 1) (pe_globI rfl T.g_MOST_WORDS) (nomark _)) (pss_one (ps_ret pe_bl)) pss_nil)
  (pss_cons (ps_if (pt_cmpR op_eq (pv 0) (pe_globI rfl T.g_LINE_END) (nomark _)) (pss_one (ps_ret (pe_cmpR op_ge (pv 2) (pe_globI rfl T.g_LEAST_LETTERS) (nomark _)))) pss_nil)
  (pss_one (ps_ret (pe_and (pe_call (ok_is_letter T) (hr.mono (by decide)) rfl T.m_is_letter T.F_is_letter.kp T.bd_is_letter .nil pass0 (pa_cons (pv 0) pa_nil)) (pe_one (pe_cmpR op_lt (pv 2) (pe_globI rfl T.g_MOST_LETTERS) (nomark _)))))))), ?_⟩
    refine ⟨_, rfl, rfl, _, rfl, ite2 (fun h => ?_) (fun h1 => ?_)⟩
    · have e : Cf.mayW b r l = false := by
        have : (r : Int) = 200 := by simpa using h
        have : r = 200 := by omega
        subst this; rfl
      rw [e] at k
      exact k
    · have n1 : ¬ r = 200 := by
        have : ¬ (r : Int) = 200 := by simpa using h1
        omega
      refine ⟨_, rfl, rfl, _, rfl, ite2 (fun h => ?_) (fun h2 => ?_)⟩
      · have e10 : b = 10 := by simpa using h
        refine ⟨_, rfl, _, _, rfl, rfl, ?_⟩
        have e : Cf.mayW b r l = decide ((2 : Int) ≤ l) := by
          unfold Cf.mayW
          rw [if_neg n1, if_pos e10]
          congr 1
          exact propext ⟨fun z => by omega, fun z => by omega⟩
        rw [e] at k
        exact k
      · have n2 : ¬ b = 10 := by simpa using h2
        refine ⟨_, rfl, b, rfl, _, rfl, ite2 (fun h3 => ?_) (fun h3 => ?_)⟩
        · refine ⟨_, rfl, _, _, rfl, rfl, ?_⟩
          have e : Cf.mayW b r l = decide ((l : Int) < 9) := by
            unfold Cf.mayW
            rw [if_neg n1, if_neg n2, h3, Bool.true_and]
            congr 1
            exact propext ⟨fun z => by omega, fun z => by omega⟩
          rw [e] at k
          exact k
        · have e : Cf.mayW b r l = false := by
            unfold Cf.mayW
            rw [if_neg n1, if_neg n2]
            have : Cf.isLetI b = false := by simpa using h3
            rw [this]
            rfl
          rw [e] at k
          exact k
def sp_first_fault_of_words (K : PySem.W.Frag) : Sp := fun vs H Q _ => ∃ (a : Addr) (ns : List Int), vs = [.ref a] ∧ SqL K H a (ns.map V.int) ∧ ∀ H', Same H H' → Q (optV (Cf.faultW ns)) H'
theorem ok_first_fault_of_words (T : Txt K mg A) : FnOk P w K mg base CX0 3 A.a_first_fault_of_words A.d_first_fault_of_words ["w"] (sp_first_fault_of_words K) := by
  refine T.F_first_fault_of_words.ok sc_first_fault_of_words (fun vs H Q E h => ?_) (fun cdv Ar outer s H vs Q E hr h => ?_)
  · obtain ⟨a, ns, rfl, _⟩ := h
    rfl
  · obtain ⟨a, ns, rfl, hS, k⟩ := h
    refine ⟨_, (pss_cons (ps_set (i := 1) sc_first_fault_of_words.nd rfl (Or.inl rfl) pe_int)
  (pss_cons (ps_set (i := 2) sc_first_fault_of_words.nd rfl (Or.inl rfl) pe_int)
  (pss_cons (ps_for PassesOwn.never rfl (pi_enum rfl T.b_enumerate (pa_cons (pv 0) pa_nil)) (pg_tup rfl (pgs_cons (pg_name (i := 3) sc_first_fault_of_words.nd rfl (Or.inl rfl)) (pgs_cons (pg_name (i := 4) sc_first_fault_of_words.nd rfl (Or.inl rfl)) pgs_nil)))
  (pss_cons (ps_if (pt_not (pt_val (pe_call (ok_may_follow_wordlists T) (hr.mono (by decide)) rfl T.m_may_follow_wordlists T.F_may_follow_wordlists.kp T.bd_may_follow_wordlists .nil pass0 (pa_cons (pv 4) (pa_cons (pv 1) (pa_cons (pv 2) pa_nil)))))) (pss_one (ps_ret (pv 3))) pss_nil)
  (pss_one (ps_if (pt_cmpR op_eq (pv 4) (pe_globI rfl T.g_LINE_END) (nomark _)) (pss_cons (ps_set (i := 1) sc_first_fault_of_words.nd rfl (Or.inl rfl) (pe_op op_add (pv 1) pe_int))
  (pss_one (ps_set (i := 2) sc_first_fault_of_words.nd rfl (Or.inl rfl) pe_int))) (pss_one (ps_set (i := 2) sc_first_fault_of_words.nd rfl (Or.inl rfl) (pe_op op_add (pv 2) pe_int)))))))
  (pss_cons (ps_if (pt_cmpR op_gt (pv 2) pe_int (nomark _)) (pss_one (ps_ret (pe_callB call_len_seq rfl T.b_len PySem.boot_len (pa_cons (pv 0) pa_nil)))) pss_nil)
  (pss_one (ps_ret pe_non)))))), ?_⟩
    refine ⟨_, rfl, a, _, rfl, hS, for_enum (K := K) (a := a) (xs := ns.map V.int) (fun i σ H' => ∃ (whole letters : Nat) (v5 v6 : Option V), σ = [some (.ref a), some (.int whole), some (.int letters), v5, v6] ∧ Same H H' ∧ Cf.faultW ns = Cf.faultWGo (ns.drop i) i whole letters)
      ⟨0, 0, none, none, rfl, Same.refl _, rfl⟩ (fun i σ H' _ ⟨_, _, _, _, _, s5, _⟩ => s5.seq hS) ?_ ?_⟩
    · rintro i x σ H' Tp hi ⟨whole, letters, v5, v6, rfl, sm, ef⟩ hT
      obtain ⟨b, hb, rfl⟩ := ints_get hi
      have sm2 : Same H (upd H' Tp (.tup [.int (i : Nat), .int b])) := sm.trans (Same.upd hT)
      rw [drop_at hb] at ef
      refine ⟨Tp, _, rfl, SqT.of upd_same, rfl, _, _, rfl, _, _, rfl, rfl, ?_⟩
      refine ⟨_, rfl, _, rfl, _, rfl, b, whole, letters, rfl, _, rfl, ite2 (fun h => ?_) (fun h => ?_)⟩
      · have hm : ¬ Cf.mayW b whole letters = true := by simpa using h
        refine ⟨_, rfl, ?_⟩
        have := k _ sm2
        rw [ef] at this
        simp only [Cf.faultWGo, if_neg hm] at this
        exact this
      · have hm : Cf.mayW b whole letters = true := by simpa using h
        simp only [Cf.faultWGo, if_pos hm] at ef
        refine ⟨_, rfl, rfl, _, rfl, ite2 (fun h => ?_) (fun h => ?_)⟩
        · have e10 : b = 10 := by simpa using h
          rw [if_pos e10] at ef
          exact ⟨_, rfl, _, _, rfl, rfl, whole + 1, 0, _, _, rfl, sm2, ef⟩
        · have e10 : ¬ b = 10 := by simpa using h
          rw [if_neg e10] at ef
          exact ⟨_, rfl, _, _, rfl, rfl, whole, letters + 1, _, _, rfl, sm2, ef⟩
    · rintro σ H' ⟨whole, letters, v5, v6, rfl, sm, ef⟩
      rw [List.length_map, List.drop_length] at ef
      have kk := k _ sm
      rw [ef] at kk
      simp only [Cf.faultWGo] at kk
      refine ⟨_, rfl, _, _, rfl, rfl, _, rfl, ite2 (fun h => ?_) (fun h => ?_)⟩
      · have : (0 : Int) < letters := of_decide_eq_true h
        refine ⟨_, rfl, a, _, rfl, .inl (sm.seq hS), ?_⟩
        rw [if_pos (by omega)] at kk
        rw [List.length_map]
        exact kk
      · have h1 : ¬ (0 : Int) < letters := fun z => h (decide_eq_true z)
        rw [if_neg (by omega)] at kk
        exact kk
def sp_refused_words (K : PySem.W.Frag) : Sp := fun vs H Q _ => ∃ (a : Addr) (ns : List Int), vs = [.ref a] ∧ SqL K H a (ns.map V.int) ∧ Refusal (-9) (Cf.faultW ns) H Q
theorem ok_refused_words (T : Txt K mg A) : FnOk P w K mg base CX0 4 A.a_refused_words A.d_refused_words ["w"] (sp_refused_words K) := by
  refine T.F_refused_words.ok sc_refused_words (fun vs H Q E h => ?_) (fun cdv Ar outer s H vs Q E hr h => ?_)
  · obtain ⟨a, ns, rfl, _⟩ := h
    rfl
  · obtain ⟨a, ns, rfl, hS, k⟩ := h
    refine ⟨_, (pss_cons (ps_set (i := 1) sc_refused_words.nd rfl (Or.inl rfl) (pe_call (ok_first_fault_of_words T) (hr.mono (by decide)) rfl T.m_first_fault_of_words T.F_first_fault_of_words.kp T.bd_first_fault_of_words .nil pass0 (pa_cons (pv 0) pa_nil)))
  (pss_cons (ps_if (pt_cmpR op_isN (pv 1) pe_non (nomark _)) (pss_one (ps_ret pe_non)) pss_nil)
  (pss_one (ps_ret (pe_lst (pa_cons (pe_globI rfl T.g_NO_WORDS) (pa_cons (pv 1) pa_nil))))))), ?_⟩
    refine ⟨_, rfl, a, ns, rfl, hS, fun H1 s1 => ?_⟩
    cases e : Cf.faultW ns with
    | none =>
      rw [e] at k
      refine ⟨_, rfl, rfl, _, rfl, ite2 (fun h => k H1 s1) (fun h => absurd (decide_eq_true rfl) h)⟩
    | some f =>
      rw [e] at k
      refine ⟨_, rfl, rfl, _, rfl, ite2 (fun h => absurd h (by simp [optV])) (fun h => ?_)⟩
      refine ⟨_, rfl, by show 2 ≤ sizeLine; decide, fun q hq => k _ q (s1.trans (Same.upd hq)) (s1.free hq) upd_same⟩
end
end S
end
section
set_option Elab.async false
set_option linter.all false
set_option maxRecDepth 100000
set_option maxHeartbeats 2000000
namespace S
open PySem PySem.Spec PyProof.Rows L2
-- needs: texts wordtexts
section
variable {P : Program} {w : World} {K : PySem.W.Frag} {mg : Str → Option Value} {base : Heap} {A : Adr}
/-- the first refusal of two texts -/
def Refusal2 (t wn : List Int) (H : Hp) (Q : VK) : Prop := match Cf.faultM t with
  | some f => ∀ H' p, Same H H' → H p = none → H' p = some (.lst [.int (-6), .int (f : Nat)]) → Q (.ref p) H'
  | none => Refusal (-9) (Cf.faultW wn) H Q
def sp_refused_texts (K : PySem.W.Frag) : Sp := fun vs H Q _ => ∃ (a b : Addr) (t wn : List Int), vs = [.ref a, .ref b] ∧ SqL K H a (t.map V.int) ∧ SqL K H b (wn.map V.int) ∧ Refusal2 t wn H Q
theorem Refusal.mono {z : Int} {o : Option Nat} {H H1 : Hp} {Q : VK} (s : Same H H1) (h : Refusal z o H Q) : Refusal z o H1 Q := by
  cases o with
  | none => exact fun H' s' => h H' (s.trans s')
  | some f => exact fun H' p s' hp hp' => h H' p (s.trans s') (s.free hp) hp'
theorem ok_refused_texts (T : Txt K mg A) : FnOk P w K mg base CX0 6 A.a_refused_texts A.d_refused_texts ["t", "w"] (sp_refused_texts K) := by
  refine T.F_refused_texts.ok sc_refused_texts (fun vs H Q E h => ?_) (fun cdv Ar outer s H vs Q E hr h => ?_)
  · obtain ⟨a, b, t, wn, rfl, _⟩ := h
    rfl
  · obtain ⟨a, b, t, wn, rfl, ha, hb, k⟩ := h
    unfold Refusal2 at k
    refine ⟨_, (pss_cons (ps_set (i := 2) sc_refused_texts.nd rfl (Or.inl rfl) (pe_call (ok_refused_lattice T) (hr.mono (by decide)) rfl T.m_refused_lattice T.F_refused_lattice.kp T.bd_refused_lattice .nil pass0 (pa_cons (pv 0) pa_nil)))
  (pss_cons (ps_if (pt_cmpR op_notN (pv 2) pe_non (nomark _)) (pss_one (ps_ret (pv 2))) pss_nil)
  (pss_one (ps_ret (pe_call (ok_refused_words T) (hr.mono (by decide)) rfl T.m_refused_words T.F_refused_words.kp T.bd_refused_words .nil pass0 (pa_cons (pv 1) pa_nil)))))), ?_⟩
    refine ⟨_, rfl, a, t, rfl, ha, ?_⟩
    cases e : Cf.faultM t with
    | some f =>
      rw [e] at k
      intro H1 p s1 hp hp1
      refine ⟨_, rfl, rfl, _, rfl, ite2 (fun h => ⟨_, rfl, k H1 p s1 hp hp1⟩) (fun h => absurd (by simp) h)⟩
    | none =>
      rw [e] at k
      intro H1 s1
      refine ⟨_, rfl, rfl, _, rfl, ite2 (fun h => absurd h (by simp)) (fun h => ?_)⟩
      exact ⟨_, rfl, b, wn, rfl, s1.seq hb, Refusal.mono s1 k⟩
end
end S
end
section
set_option Elab.async false
set_option linter.all false
set_option maxRecDepth 100000
set_option maxHeartbeats 2000000
namespace S
open PySem PySem.Spec PyProof.Rows L2
-- needs: reftexts
section
variable {P : Program} {w : World} {K : PySem.W.Frag} {mg : Str → Option Value} {base : Heap} {A : Adr}
/-- the first refusal of a search -/
def Refusal3 (n : Nat) (t wn : List Int) (H : Hp) (Q : VK) : Prop := match Cf.faultM t with
  | some f => ∀ H' p, Same H H' → H p = none → H' p = some (.lst [.int (-6), .int (f : Nat)]) → Q (.ref p) H'
  | none => match Cf.faultW wn with
    | some f => ∀ H' p, Same H H' → H p = none → H' p = some (.lst [.int (-9), .int (f : Nat)]) → Q (.ref p) H'
    | none => if n = 0 ∨ 100000 < n then ∀ H' p, Same H H' → H p = none → H' p = some (.lst [.int (-1)]) → Q (.ref p) H' else ∀ H', Same H H' → Q .non H'
def sp_refused_search (K : PySem.W.Frag) : Sp := fun vs H Q _ => ∃ (n : Nat) (a b : Addr) (t wn : List Int), vs = [.int (n : Nat), .ref a, .ref b] ∧ SqL K H a (t.map V.int) ∧ SqL K H b (wn.map V.int) ∧ Refusal3 n t wn H Q
theorem ok_refused_search (T : Txt K mg A) : FnOk P w K mg base CX0 7 A.a_refused_search A.d_refused_search ["n", "t", "w"] (sp_refused_search K) := by
  refine T.F_refused_search.ok sc_refused_search (fun vs H Q E h => ?_) (fun cdv Ar outer s H vs Q E hr h => ?_)
  · obtain ⟨n, a, b, t, wn, rfl, _⟩ := h
    rfl
  · obtain ⟨n, a, b, t, wn, rfl, ha, hb, k⟩ := h
    unfold Refusal3 at k
    refine ⟨_, (pss_cons (ps_set (i := 3) sc_refused_search.nd rfl (Or.inl rfl) (pe_call (ok_refused_texts T) (hr.mono (by decide)) rfl T.m_refused_texts T.F_refused_texts.kp T.bd_refused_texts .nil pass0 (pa_cons (pv 1) (pa_cons (pv 2) pa_nil))))
  (pss_cons (ps_if (pt_cmpR op_notN (pv 3) pe_non (nomark _)) (pss_one (ps_ret (pv 3))) pss_nil)
  (pss_cons (ps_if (PW.pt (pw_or (pt_cmpR op_eq (pv 0) pe_int (nomark _)) (pw_or1 (pt_cmpR op_gt (pv 0) (pe_globI rfl T.g_MOST_TRIALS) (nomark _))))) (pss_one (ps_ret (pe_lst (pa_cons (pe_globI rfl T.g_OUT_OF_RANGE) pa_nil)))) pss_nil)
  (pss_one (ps_ret pe_non))))), ?_⟩
    refine ⟨_, rfl, _, rfl, a, b, t, wn, rfl, ha, hb, ?_⟩
    unfold Refusal2
    cases e : Cf.faultM t with
    | some f =>
      rw [e] at k
      intro H1 p s1 hp hp1
      refine ⟨_, rfl, rfl, _, rfl, ite2 (fun h => ⟨_, rfl, k H1 p s1 hp hp1⟩) (fun h => absurd (by simp) h)⟩
    | none =>
      rw [e] at k
      simp only at k ⊢
      cases e2 : Cf.faultW wn with
      | some f =>
        rw [e2] at k
        intro H1 p s1 hp hp1
        refine ⟨_, rfl, rfl, _, rfl, ite2 (fun h => ⟨_, rfl, k H1 p s1 hp hp1⟩) (fun h => absurd (by simp) h)⟩
      | none =>
        rw [e2] at k
        simp only at k
        intro H1 s1
        refine ⟨_, rfl, rfl, _, rfl, ite2 (fun h => absurd h (by simp)) (fun h => ?_)⟩
        have no : (n = 0 ∨ 100000 < n) → ∀ p, H1 p = none → Q (.ref p) (upd H1 p (.lst [.int (-1)])) := fun z p hp => by
          rw [if_pos z] at k
          exact k _ p (s1.trans (Same.upd hp)) (s1.free hp) upd_same
        refine ⟨_, rfl, rfl, _, rfl, ite2 (fun h => ?_) (fun h1 => ?_)⟩
        · have h0 : (n : Int) = 0 := by simpa using h
          exact ⟨by show 1 ≤ sizeLine; decide, fun p hp => no (.inl (by omega)) p hp⟩
        · have h0 : ¬ (n : Int) = 0 := by simpa using h1
          refine ⟨_, rfl, _, _, rfl, rfl, _, rfl, ite2 (fun h => ?_) (fun h2 => ?_)⟩
          · have h2 : (100000 : Int) < n := of_decide_eq_true h
            exact ⟨by show 1 ≤ sizeLine; decide, fun p hp => no (.inr (by omega)) p hp⟩
          · have h3 : ¬ (100000 : Int) < n := fun z => h2 (decide_eq_true z)
            rw [if_neg (by omega)] at k
            exact k _ s1
end
end S
end
section
set_option Elab.async false
set_option linter.all false
set_option maxRecDepth 100000
set_option maxHeartbeats 2000000
namespace S
open PySem PySem.Spec PyProof.Rows L2
-- needs:
section
variable {P : Program} {w : World} {K : PySem.W.Frag} {mg : Str → Option Value} {base : Heap} {A : Adr}
def sp_told_filling : Sp := fun vs H Q _ => (vs = [.non] ∧ ∀ H' p, H' p = some (.lst [.int 0]) → Q (.ref p) H') ∨ ∃ (p : Addr) (f : List Nat), vs = [.ref p] ∧ H p = some (.lst (natsV f)) ∧ f.length ≤ 1000 ∧ ∀ H' q, H' q = some (.lst (.int 1 :: natsV f)) → Q (.ref q) H'
theorem ok_told_filling (T : Txt K mg A) : FnOk P w K mg base CX0 1 A.a_told_filling A.d_told_filling ["filling"] sp_told_filling := by
  refine T.F_told_filling.ok sc_told_filling (fun vs H Q E h => ?_) (fun cdv Ar outer s H vs Q E hr h => ?_)
  · rcases h with ⟨rfl, _⟩ | ⟨p, f, rfl, _⟩ <;> rfl
  · refine ⟨_, (pss_cons (ps_if (pt_cmpR op_isN (pv 0) pe_non (nomark _)) (pss_one (ps_ret (pe_lst (pa_cons pe_int pa_nil)))) pss_nil)
  (pss_one (ps_ret (pe_op op_cat (pe_lst (pa_cons pe_int pa_nil)) (pv 0))))), ?_⟩
    rcases h with ⟨rfl, k⟩ | ⟨p, f, rfl, hp, hf, k⟩
    · refine ⟨_, rfl, rfl, _, rfl, ite2 (fun h => ?_) (fun h => absurd (decide_eq_true rfl) h)⟩
      exact ⟨by show 1 ≤ sizeLine; decide, fun q hq => k _ q upd_same⟩
    · refine ⟨_, rfl, rfl, _, rfl, ite2 (fun h => absurd h (by simp)) (fun h => ?_)⟩
      refine ⟨by show 1 ≤ sizeLine; decide, fun q hq => ?_⟩
      have nq : p ≠ q := ne_of_none hp hq
      refine ⟨_, rfl, q, p, _, _, rfl, rfl, upd_same, by rw [upd_ne nq]; exact hp, smallE (by unfold natsV; rw [List.length_map]; show 1 + _ ≤ _; omega), fun z hz => k _ z ?_⟩
      rw [upd_same]
      rfl
end
end S
end
section
set_option Elab.async false
set_option linter.all false
set_option maxRecDepth 100000
set_option maxHeartbeats 2000000
namespace S
open PySem PySem.Spec PyProof.Rows L2
-- needs: following refsearch told
-- plain: CfM11
section
variable {P : Program} {w : World} {K : PySem.W.Frag} {mg : Str → Option Value} {base : Heap} {A : Adr}
def sp_is_behind (K : PySem.W.Frag) : Sp := fun vs H Q _ => ∃ (p a : Addr) (f : List Nat) (l : List Int), vs = [.ref p, .ref a] ∧ H p = some (.lst (natsV f)) ∧ SqL K H a (l.map V.int) ∧ (∀ z ∈ l, 0 ≤ z) ∧ f.length = l.length ∧ ∀ H', Same H H' → Q (.bl (ClFill.isBefore (l.map Int.toNat) f)) H'
theorem ok_is_behind (T : Txt K mg A) : FnOk P w K mg base CX0 1 A.a_is_behind A.d_is_behind ["filling", "numbers"] (sp_is_behind K) := by
  refine T.F_is_behind.ok sc_is_behind (fun vs H Q E h => ?_) (fun cdv Ar outer s H vs Q E hr h => ?_)
  · obtain ⟨p, a, f, l, rfl, _⟩ := h
    rfl
  · obtain ⟨p, a, f, l, rfl, hp, ha, hl, hlen, k⟩ := h
    have hfl : (natsV f).length = f.length := by unfold natsV; rw [List.length_map]
    refine ⟨_, (pss_cons (ps_for PassesOwn.never rfl (pi_zip rfl T.b_zip (pa_cons (pv 0) (pa_cons (pv 1) pa_nil))) (pg_tup rfl (pgs_cons (pg_name (i := 2) sc_is_behind.nd rfl (Or.inl rfl)) (pgs_cons (pg_name (i := 3) sc_is_behind.nd rfl (Or.inl rfl)) pgs_nil)))
  (pss_one (ps_if (pt_cmpR op_ne (pv 2) (pv 3) (nomark _)) (pss_one (ps_ret (pe_cmpR op_gt (pv 2) (pv 3) (nomark _)))) pss_nil)))
  (pss_one (ps_ret pe_bl))), ?_⟩
    refine ⟨_, rfl, _, rfl, p, a, _, _, rfl, SqL.of hp, ha, for_zip (K := K) (a := p) (b := a) (xs := natsV f) (ys := l.map V.int) (fun i σ H' => ∃ (v2 v3 : Option V), σ = [some (.ref p), some (.ref a), v2, v3] ∧ Same H H' ∧
        ClFill.isBefore (l.map Int.toNat) f = ClFill.isBefore ((l.map Int.toNat).drop i) (f.drop i))
      ⟨none, none, rfl, Same.refl _, rfl⟩ (fun i σ H' _ _ ⟨_, _, _, s5, _⟩ => ⟨SqL.of (s5 _ _ hp), s5.seq ha⟩) ?_ ?_⟩
    · rintro i y1 y2 σ H1 Tp hy1 hy2 ⟨v2, v3, rfl, sm, ef⟩ hT
      obtain ⟨n, hn, rfl⟩ := nats_get hy1
      rw [List.getElem?_map] at hy2
      obtain ⟨m, hm, rfl⟩ := Option.map_eq_some_iff.mp hy2
      have hm0 : 0 ≤ m := hl m (List.mem_of_getElem? hm)
      have sT := Same.upd (o := .tup [.int (n : Nat), .int m]) hT
      have hmt : (l.map Int.toNat)[i]? = some m.toNat := by rw [List.getElem?_map, hm]; rfl
      rw [drop_at hmt, drop_at hn] at ef
      refine ⟨Tp, _, rfl, SqT.of upd_same, rfl, _, _, rfl, _, _, rfl, rfl, ?_⟩
      refine ⟨_, rfl, _, rfl, rfl, _, rfl, ite2 (fun h => ?_) (fun h => ?_)⟩
      · have h0 : ¬ ((n : Nat) : Int) = m := by simpa using h
        rw [Cf.before_ne (by omega)] at ef
        refine ⟨_, rfl, _, rfl, _, _, rfl, rfl, ?_⟩
        have e1 : decide (m < ((n : Nat) : Int)) = ClFill.isBefore (l.map Int.toNat) f := by
          rw [ef]
          exact decide_eq_decide.mpr (by omega)
        show Q (.bl (decide (m < ((n : Nat) : Int)))) _
        rw [e1]
        exact k _ (sm.trans sT)
      · have h0 : ((n : Nat) : Int) = m := by simpa using h
        rw [show m.toNat = n by omega, Cf.before_same] at ef
        exact ⟨_, _, rfl, sm.trans sT, ef⟩
    · rintro i σ H1 hi1 hi2 hend ⟨v2, v3, rfl, sm, ef⟩
      rw [hfl, List.length_map] at hend
      have e0 : f.drop i = [] := List.drop_eq_nil_of_le (by omega)
      have e1 : ClFill.isBefore (l.map Int.toNat) f = false := by
        rw [ef, e0]
        cases (l.map Int.toNat).drop i <;> rfl
      rw [e1] at k
      exact k _ sm
/-- what is wanted of each end -/
def BehindQ (CE : Addr) (N : Nat) (F : ClFill.Found) (Q : VK) (E : XK) : Prop := match F with
  | .filling f _ => ∀ H' p, H' p = some (.lst (natsV f)) → f.length = N → Q (.ref p) H'
  | .none => ∀ H', Q .non H'
  | .out => ∀ H', E (.ref CE) none H'
theorem Rests.same {C CS : Addr} {H H' : Hp} {x q : Addr} {R W : List (List Int)} {wd : Nat} {st : List Nat} {tr : Nat} {bg : Bool} (s : Same H H') (h : Rests C CS H x q R W wd st tr bg) : Rests C CS H' x q R W wd st tr bg := ⟨h.rect, h.words, h.at_.same s, h.valid, h.len⟩
def sp_first_behind (K : PySem.W.Frag) (C CS CE : Addr) : Sp := fun vs H Q E => ∃ (x q a : Addr) (R W : List (List Int)) (wd tr : Nat) (l : List Int), vs = [.ref x, .ref a] ∧ Rests C CS H x q R W wd [] tr false ∧ SqL K (Hd H x q) a (l.map V.int) ∧ (∀ z ∈ l, 0 ≤ z) ∧ l.length = (Cf.gridOf R wd).lights.length ∧ tr ≠ 0 ∧
  BehindQ CE (Cf.gridOf R wd).lights.length (ClFill.behindFrom (Cf.wordsOf W) (ClFill.turnsOf (Cf.gridOf R wd) (Cf.wordsOf W)) (l.map Int.toNat) (tr + 1) (ClFill.firstOf (Cf.wordsOf W) (ClFill.turnsOf (Cf.gridOf R wd) (Cf.wordsOf W)) tr)) Q E
def BInv (K : PySem.W.Frag) (C CS CE : Addr) (x q a : Addr) (R W : List (List Int)) (wd : Nat) (l : List Int) (Q : VK) (E : XK) (m : Nat) (σ : L2.St) (H : Hp) : Prop :=
  (∃ (p : Addr) (f : List Nat) (left : Nat), σ = [some (.ref x), some (.ref a), some (.ref p)] ∧ SqL K (Hd H x q) a (l.map V.int) ∧ Rests C CS H x q R W wd f left true ∧ H p = some (.lst (natsV f)) ∧ Cf.Enough m (.filling f left) ∧
    BehindQ CE (Cf.gridOf R wd).lights.length (ClFill.behindFrom (Cf.wordsOf W) (ClFill.turnsOf (Cf.gridOf R wd) (Cf.wordsOf W)) (l.map Int.toNat) m (.filling f left)) Q E) ∨ (σ = [some (.ref x), some (.ref a), some .non] ∧ ∀ H', Q .non H')
/-- behind a step of the search -/
theorem follow_inv {C CS CE : Addr} {H : Hp} {x q a : Addr} {R W : List (List Int)} {wd : Nat} {l : List Int} {Q : VK} {E : XK} {m : Nat} {F : ClFill.Found} (ha : SqL K (Hd H x q) a (l.map V.int)) (he : Cf.Enough m F)
    (k : BehindQ CE (Cf.gridOf R wd).lights.length (ClFill.behindFrom (Cf.wordsOf W) (ClFill.turnsOf (Cf.gridOf R wd) (Cf.wordsOf W)) (l.map Int.toNat) m F) Q E) {Z : VK} (hZ : ∀ v H', BInv K C CS CE x q a R W wd l Q E m [some (.ref x), some (.ref a), some v] H' → Z v H') : FollowQ C CS CE H x q R W wd F Z E := by
  unfold FollowQ
  cases F with
  | filling f left => exact fun H' p hR sm hp _ => hZ _ _ (.inl ⟨p, f, left, rfl, sm.seq ha, hR, hp, he, k⟩)
  | none =>
    rw [Cf.behind_none _ _ _ he.1] at k
    exact fun H' sm => hZ _ _ (.inr ⟨rfl, k⟩)
  | out =>
    rw [Cf.behind_out] at k
    exact k
theorem ok_first_behind (T : Txt K mg A) : FnOk P w K mg base (CX1 P w A.c_TooFewTrials) 5 A.a_first_behind A.d_first_behind ["search", "numbers"] (sp_first_behind K A.c_Search A.c_Slot A.c_TooFewTrials) := by
  refine T.F_first_behind.okX sc_first_behind (fun vs H Q E h => ?_) (fun cdv Ar outer s H vs Q E hr h => ?_)
  · obtain ⟨x, q, a, R, W, wd, tr, l, rfl, _⟩ := h
    rfl
  · obtain ⟨x, q, a, R, W, wd, tr, l, rfl, hS, ha, hl, hlen, htr, k⟩ := h
    refine ⟨_, (pss_cons (ps_set (i := 2) sc_first_behind.nd rfl (Or.inl rfl) (pe_meth0 (pv 0) T.cl_Search T.me_Search_following (ok_Search_following T) (hr.mono (by decide)) T.bd_Search_following .nil pass1))
  (pss_cons (ps_while PassesOwn.leaving (PW.pt (pw_and (pt_cmpR op_notN (pv 2) pe_non (nomark _)) (pw_and1 (pt_not (pt_val (pe_call (ok_is_behind T) (hr.mono (by decide)) rfl T.m_is_behind T.F_is_behind.kp T.bd_is_behind .nil pass0 (pa_cons (pv 2) (pa_cons (pv 1) pa_nil)))))))) (pss_one (ps_set (i := 2) sc_first_behind.nd rfl (Or.inl rfl) (pe_meth0 (pv 0) T.cl_Search T.me_Search_following (ok_Search_following T) (hr.mono (by decide)) T.bd_Search_following .nil pass1))))
  (pss_one (ps_ret (pv 2))))), ?_⟩
    obtain ⟨dx, ps, pw, hx, hq, hsl, hW⟩ := hS.at_.ex
    have en := Cf.enough_first (Cf.wordsOf W) (ClFill.turnsOf (Cf.gridOf R wd) (Cf.wordsOf W)) htr
    refine ⟨_, rfl, x, dx, _, rfl, hx, sl_following _ _ _ _ _ _, x, q, R, W, wd, [], tr, false, rfl, hS, ?_⟩
    have e0 : nextF R W wd [] tr false = ClFill.firstOf (Cf.wordsOf W) (ClFill.turnsOf (Cf.gridOf R wd) (Cf.wordsOf W)) tr := by unfold nextF; rw [if_neg (by decide)]
    rw [e0]
    refine follow_inv ha en k (fun v H1 hB => ?_)
    refine ⟨BInv K A.c_Search A.c_Slot A.c_TooFewTrials x q a R W wd l Q E, ⟨tr + 1, hB⟩, ?_⟩
    rintro m σ H2 (⟨p, f, left, rfl, ha2, hR2, hp2, en2, k2⟩ | ⟨rfl, k2⟩)
    · refine ⟨_, rfl, rfl, _, rfl, ite2 (fun h => ?_) (fun h => absurd (by simp) h)⟩
      have hfl : f.length = (Cf.gridOf R wd).lights.length := by
        rcases hR2.len with ⟨_, z⟩ | ⟨z, _⟩
        · exact z
        · cases z
      obtain ⟨r, rfl⟩ : ∃ r, m = r + 1 := ⟨m - 1, by have := en2.1; omega⟩
      rw [Cf.behind_filling] at k2
      refine ⟨_, rfl, _, rfl, p, a, f, l, rfl, hp2, Hd_same.seq ha2, hl, by omega, fun H3 sm => ⟨_, rfl, ite2 (fun hb => ?_) (fun hb => ?_)⟩⟩
      · rw [if_neg (by intro z; rw [z] at hb; cases hb)] at k2
        have hR3 := hR2.same sm
        obtain ⟨dx3, ps3, pw3, hx3, hq3, hsl3, hW3⟩ := hR3.at_.ex
        refine ⟨BInv K A.c_Search A.c_Slot A.c_TooFewTrials x q a R W wd l Q E r, fun σ' H' z => ⟨r, by omega, z⟩, ?_⟩
        refine ⟨_, rfl, x, dx3, _, rfl, hx3, sl_following _ _ _ _ _ _, x, q, R, W, wd, f, left, true, rfl, hR3, ?_⟩
        have e1 : nextF R W wd f left true = ClFill.nextOf (Cf.wordsOf W) (ClFill.turnsOf (Cf.gridOf R wd) (Cf.wordsOf W)) left f := by unfold nextF; rw [if_pos rfl]
        rw [e1]
        exact follow_inv ((Hd_mono sm).seq ha2) (Cf.enough_next _ _ en2) k2 (fun v H' z => z)
      · rw [if_pos (by cases z : ClFill.isBefore (l.map Int.toNat) f with | true => rfl | false => rw [z] at hb; exact absurd rfl hb)] at k2
        exact ⟨_, rfl, k2 _ p (sm _ _ hp2) hfl⟩
    · refine ⟨_, rfl, rfl, _, rfl, ite2 (fun h => absurd h (by simp)) (fun h => ?_)⟩
      exact ite2 (fun z => absurd z (by decide)) (fun _ => ⟨_, rfl, k2 _⟩)
theorem nats_reply (z : Int) (f : List Nat) : ((Cf.replyL (ClFill.tells z f)).map V.int) = .int z :: natsV f := by
  unfold Cf.replyL ClFill.tells natsV
  simp only [List.map_nil, List.append_nil, List.map_cons, List.map_map]
  rfl
/-- the refusal's numbers -/
def refM (n : Nat) (t wn : List Int) : Option (List Int) := match Cf.faultM t with
  | some f => some [-6, (f : Nat)]
  | none => match Cf.faultW wn with
    | some f => some [-9, (f : Nat)]
    | none => if n = 0 ∨ 100000 < n then some [-1] else none
theorem refusal3_of {n : Nat} {t wn : List Int} {H : Hp} {Q : VK} (hS : ∀ r, refM n t wn = some r → ∀ H' p, H' p = some (.lst (r.map V.int)) → Q (.ref p) H') (hN : refM n t wn = none → ∀ H', Same H H' → Q .non H') : Refusal3 n t wn H Q := by
  unfold Refusal3
  unfold refM at hS hN
  cases e : Cf.faultM t with
  | some f => rw [e] at hS; exact fun H' p _ _ h => hS _ rfl H' p h
  | none =>
    rw [e] at hS hN
    simp only at hS hN ⊢
    cases e2 : Cf.faultW wn with
    | some f => rw [e2] at hS; exact fun H' p _ _ h => hS _ rfl H' p h
    | none =>
      rw [e2] at hS hN
      simp only at hS hN ⊢
      by_cases hn : n = 0 ∨ 100000 < n
      · rw [if_pos hn]
        rw [if_pos hn] at hS
        exact fun H' p _ _ h => hS _ rfl H' p h
      · rw [if_neg hn]
        rw [if_neg hn] at hN
        exact hN rfl
theorem ref_due {n : Nat} {t wn r : List Int} (ht : Cf.AreBytes t) (hw : Cf.AreBytes wn) (h : refM n t wn = some r) (F : ClLat.Grid → List ClFill.Letters → ClFill.Reply) : Cf.replyL (ClFill.ofBoth (Cf.toB t) (Cf.toB wn) fun g ws => if n = 0 ∨ ClFill.TRIALS < n then ClFill.says (-1) else F g ws) = r := by
  unfold refM at h
  cases e : Cf.faultM t with
  | some f => rw [e] at h; rw [Cf.both_t ht e, ← Option.some.inj h]; rfl
  | none =>
    rw [e] at h
    simp only at h
    cases e2 : Cf.faultW wn with
    | some f => rw [e2] at h; rw [Cf.both_w ht hw e e2, ← Option.some.inj h]; rfl
    | none =>
      rw [e2] at h
      simp only at h
      obtain ⟨wd, _, _, due⟩ := Cf.both_ok ht hw e e2
      by_cases hn : n = 0 ∨ 100000 < n
      · rw [if_pos hn] at h
        rw [due, if_pos (show n = 0 ∨ ClFill.TRIALS < n from hn), ← Option.some.inj h]
        rfl
      · rw [if_neg hn] at h
        cases h
theorem ref_none {n : Nat} {t wn : List Int} (h : refM n t wn = none) : Cf.faultM t = none ∧ Cf.faultW wn = none ∧ ¬ (n = 0 ∨ 100000 < n) := by
  unfold refM at h
  cases e : Cf.faultM t with
  | some f => rw [e] at h; cases h
  | none =>
    rw [e] at h
    simp only at h
    cases e2 : Cf.faultW wn with
    | some f => rw [e2] at h; cases h
    | none =>
      rw [e2] at h
      simp only at h
      by_cases hn : n = 0 ∨ 100000 < n
      · rw [if_pos hn] at h; cases h
      · exact ⟨rfl, rfl, hn⟩
def sp_next_of (K : PySem.W.Frag) : Sp := fun vs H Q _ => ∃ (n : Nat) (a b c : Addr) (t wn l : List Int), vs = [.int (n : Nat), .ref a, .ref b, .ref c] ∧ SqL K H a (t.map V.int) ∧ t.length ≤ 100 ∧ Cf.AreBytes t ∧ SqL K H b (wn.map V.int) ∧ wn.length ≤ 2100 ∧ Cf.AreBytes wn ∧ SqL K H c (l.map V.int) ∧ (∀ z ∈ l, 0 ≤ z) ∧
  ∀ (H' : Hp) (p : Addr), H' p = some (.lst ((PyWqbabt.next_of (n : Nat) t wn l).map V.int)) → Q (.ref p) H'
theorem ok_next_of (T : Txt K mg A) : FnOk P w K mg base CX0 9 A.a_next_of A.d_next_of ["n", "t", "w", "a"] (sp_next_of K) := by
  refine T.F_next_of.ok sc_next_of (fun vs H Q E h => ?_) (fun cdv Ar outer s H vs Q E hr h => ?_)
  · obtain ⟨n, a, b, c, t, wn, l, rfl, _⟩ := h
    rfl
  · obtain ⟨n, a, b, c, t, wn, l, rfl, ha, ht1, ht, hb, hw1, hw, hc, hl, k⟩ := h
    rw [Cf.next_due (Int.natCast_nonneg n) ht hw hl, Int.toNat_natCast] at k
    refine ⟨_, (pss_cons (ps_set (i := 4) sc_next_of.nd rfl (Or.inl rfl) (pe_call (ok_refused_search T) (hr.mono (by decide)) rfl T.m_refused_search T.F_refused_search.kp T.bd_refused_search .nil pass0 (pa_cons (pv 0) (pa_cons (pv 1) (pa_cons (pv 2) pa_nil)))))
  (pss_cons (ps_if (pt_cmpR op_notN (pv 4) pe_non (nomark _)) (pss_one (ps_ret (pv 4))) pss_nil)
  (pss_cons (ps_set (i := 5) sc_next_of.nd rfl (Or.inl rfl) (pe_call (ok_search_of T) (hr.mono (by decide)) rfl T.m_search_of T.F_search_of.kp T.bd_search_of .nil pass0 (pa_cons (pv 0) (pa_cons (pv 1) (pa_cons (pv 2) pa_nil)))))
  (pss_cons (ps_if (pt_cmpR op_ne (pe_callB call_len_seq rfl T.b_len PySem.boot_len (pa_cons (pv 3) pa_nil)) (pe_callB call_len_seq rfl T.b_len PySem.boot_len (pa_cons (pe_fld (pv 5) rfl) pa_nil)) (nomark _)) (pss_one (ps_ret (pe_lst (pa_cons (pe_globI rfl T.g_NO_SUCH) pa_nil)))) pss_nil)
  (pss_one (ps_tryRet (C := A.c_TooFewTrials) rfl T.m_TooFewTrials T.x_TooFewTrials (fun _ _ _ hp => (pe_call (ok_told_filling T) (hr.mono (by decide)) rfl T.m_told_filling T.F_told_filling.kp T.bd_told_filling .nil pass0 (pa_cons (pe_call (ok_first_behind T) (hr.mono (by decide)) rfl T.m_first_behind T.F_first_behind.kp T.bd_first_behind .nil hp (pa_cons (pv 5) (pa_cons (pv 3) pa_nil))) pa_nil))) (fun _ _ => (pss_one (ps_ret (pe_lst (pa_cons (pe_globI rfl T.g_TOO_FEW) pa_nil))))))))))), ?_⟩
    refine ⟨_, rfl, _, rfl, _, rfl, n, a, b, t, wn, rfl, ha, hb, ?_⟩
    refine refusal3_of (fun r e H1 z hz => ?_) (fun e H1 s1 => ?_)
    · rw [ref_due ht hw e] at k
      exact ⟨_, rfl, rfl, _, rfl, ite2 (fun h => ⟨_, rfl, k _ z hz⟩) (fun h => absurd (by simp) h)⟩
    · obtain ⟨e1, e2, hn⟩ := ref_none e
      obtain ⟨wd, hRect, hWs, due⟩ := Cf.both_ok ht hw e1 e2
      rw [due, if_neg (show ¬ (n = 0 ∨ ClFill.TRIALS < n) from hn)] at k
      refine ⟨_, rfl, rfl, _, rfl, ite2 (fun h => absurd h (by simp)) (fun h => ?_)⟩
      refine ⟨_, rfl, _, rfl, _, rfl, n, a, b, t, wn, wd, rfl, s1.seq ha, ht1, s1.seq hb, hw1, hRect, fun H2 x q hat sm => ?_⟩
      obtain ⟨dx, ps, pw, hx, hq, hsl, hW⟩ := hat.ex
      have hc2 : SqL K (Hd H2 x q) c (l.map V.int) := (s1.trans sm).seq hc
      obtain ⟨as, hps, hal⟩ := (hsl.same Hd_same).ex
      have hlas := hal.length
      rw [Cf.slots_len] at hlas
      have htl := Cf.turns_len (Cf.gridOf (Cf.rowsM t) wd) (Cf.wordsOf (Cf.rowsM wn))
      have hll : (l.map Int.toNat).length = l.length := List.length_map _
      refine ⟨_, rfl, c, _, rfl, .inl (Hd_same.seq hc2), _, rfl, x, A.c_Search, dx, _, _, rfl, hx, T.cl_Search, T.n_Search_slots, sl_slots _ _ _ _ _ _, ps, _, rfl, .inl (SqL.of hps), rfl, _, rfl, ite2 (fun h => ?_) (fun h => ?_)⟩
      · have h0 : ¬ ((l.map V.int).length : Int) = ((as.map V.ref).length : Int) := by simpa using h
        rw [List.length_map, List.length_map] at h0
        rw [if_pos (show (l.map Int.toNat).length ≠ (ClFill.turnsOf (Cf.gridOf (Cf.rowsM t) wd) (Cf.wordsOf (Cf.rowsM wn))).length from by omega)] at k
        refine ⟨by show 1 ≤ sizeLine; decide, fun z hz => k _ z ?_⟩
        rw [upd_same]
        rfl
      · have h0 : ((l.map V.int).length : Int) = ((as.map V.ref).length : Int) := by simpa using h
        rw [List.length_map, List.length_map] at h0
        rw [if_neg (show ¬ (l.map Int.toNat).length ≠ (ClFill.turnsOf (Cf.gridOf (Cf.rowsM t) wd) (Cf.wordsOf (Cf.rowsM wn))).length from by omega)] at k
        refine ⟨_, rfl, _, rfl, x, q, c, _, _, wd, n, l, rfl, ⟨hRect, hWs, hat, fun j m hj => by simp at hj, .inr ⟨rfl, rfl⟩⟩, hc2, hl, by omega, by omega, ?_⟩
        unfold BehindQ
        cases eF : ClFill.behindFrom (Cf.wordsOf (Cf.rowsM wn)) (ClFill.turnsOf (Cf.gridOf (Cf.rowsM t) wd) (Cf.wordsOf (Cf.rowsM wn))) (l.map Int.toNat) (n + 1) (ClFill.firstOf (Cf.wordsOf (Cf.rowsM wn)) (ClFill.turnsOf (Cf.gridOf (Cf.rowsM t) wd) (Cf.wordsOf (Cf.rowsM wn))) n) with
        | filling f left =>
          rw [eF] at k
          intro H3 p hp hfN
          have hfl : f.length ≤ 1000 := by
            have hc := Cf.lights_count hRect
            omega
          refine .inr ⟨p, f, rfl, hp, hfl, fun H4 z hz => k H4 z ?_⟩
          rw [hz]
          exact congrArg (fun l => some (HO.lst l)) (nats_reply 1 f).symm
        | none =>
          rw [eF] at k
          intro H3
          refine .inl ⟨rfl, fun H4 z hz => k H4 z ?_⟩
          rw [hz]
          rfl
        | out =>
          rw [eF] at k
          intro H3
          refine ⟨by show 1 ≤ sizeLine; decide, fun z hz => k _ z ?_⟩
          rw [upd_same]
          rfl
end
end S
end
set_option Elab.async false
set_option linter.all false
set_option maxRecDepth 100000
set_option maxHeartbeats 2000000
namespace S
open PySem PySem.Spec PyProof.Rows L2
theorem unC {n : Nat} {us : List Value} (h : us.length = n + 1) : ∃ a r, us = a :: r ∧ r.length = n := by
  cases us with
  | nil => cases h
  | cons a r => exact ⟨a, r, rfl, Nat.succ.inj h⟩
theorem un0 {us : List Value} (h : us.length = 0) : us = [] := List.length_eq_zero_iff.mp h
theorem un1 {us : List Value} (h : us.length = 1) : ∃ a0, us = [a0] := by
  obtain ⟨a, r, rfl, hr⟩ := unC h
  rw [un0 hr]
  exact ⟨a, rfl⟩
theorem un2 {us : List Value} (h : us.length = 2) : ∃ a0 a1, us = [a0, a1] := by
  obtain ⟨a, r, rfl, hr⟩ := unC h
  obtain ⟨a1, e⟩ := un1 hr
  rw [e]
  exact ⟨a, a1, rfl⟩
theorem un3 {us : List Value} (h : us.length = 3) : ∃ a0 a1 a2, us = [a0, a1, a2] := by
  obtain ⟨a, r, rfl, hr⟩ := unC h
  obtain ⟨a1, a2, e⟩ := un2 hr
  rw [e]
  exact ⟨a, a1, a2, rfl⟩
theorem un4 {us : List Value} (h : us.length = 4) : ∃ a0 a1 a2 a3, us = [a0, a1, a2, a3] := by
  obtain ⟨a, r, rfl, hr⟩ := unC h
  obtain ⟨a1, a2, a3, e⟩ := un3 hr
  rw [e]
  exact ⟨a, a1, a2, a3, rfl⟩
theorem un5 {us : List Value} (h : us.length = 5) : ∃ a0 a1 a2 a3 a4, us = [a0, a1, a2, a3, a4] := by
  obtain ⟨a, r, rfl, hr⟩ := unC h
  obtain ⟨a1, a2, a3, a4, e⟩ := un4 hr
  rw [e]
  exact ⟨a, a1, a2, a3, a4, rfl⟩
theorem all_mk {P : Program} {w : World} {K : PySem.W.Frag} {h : Heap} {mg : Str → Option Value} {fa : Addr} (X : K.In h) (G : h.Ns mainGlobals mg) (hfa : mg "next_of" = some (.ref fa))
    {C_Light : Addr}
    {C_Slot : Addr}
    {C_TooFewTrials : Addr}
    {C_Search : Addr}
    {A_is_letter : Addr} {od_is_letter an_is_letter : Option Addr} {sl_is_letter : Array (Option Value)} {oc_is_letter kV_is_letter dc_is_letter pm_is_letter cd_is_letter ct_is_letter : Value}
    {A_is_cell : Addr} {od_is_cell an_is_cell : Option Addr} {sl_is_cell : Array (Option Value)} {oc_is_cell kV_is_cell dc_is_cell pm_is_cell cd_is_cell ct_is_cell : Value}
    {A_may_follow_texts : Addr} {od_may_follow_texts an_may_follow_texts : Option Addr} {sl_may_follow_texts : Array (Option Value)} {oc_may_follow_texts kV_may_follow_texts dc_may_follow_texts pm_may_follow_texts cd_may_follow_texts ct_may_follow_texts : Value}
    {A_first_fault : Addr} {od_first_fault an_first_fault : Option Addr} {sl_first_fault : Array (Option Value)} {oc_first_fault kV_first_fault dc_first_fault pm_first_fault cd_first_fault ct_first_fault : Value}
    {A_lines_of : Addr} {od_lines_of an_lines_of : Option Addr} {sl_lines_of : Array (Option Value)} {oc_lines_of kV_lines_of dc_lines_of pm_lines_of cd_lines_of ct_lines_of : Value}
    {A_cells_of : Addr} {od_cells_of an_cells_of : Option Addr} {sl_cells_of : Array (Option Value)} {oc_cells_of kV_cells_of dc_cells_of pm_cells_of cd_cells_of ct_cells_of : Value}
    {A_is_white : Addr} {od_is_white an_is_white : Option Addr} {sl_is_white : Array (Option Value)} {oc_is_white kV_is_white dc_is_white pm_is_white cd_is_white ct_is_white : Value}
    {A_moved : Addr} {od_moved an_moved : Option Addr} {sl_moved : Array (Option Value)} {oc_moved kV_moved dc_moved pm_moved cd_moved ct_moved : Value}
    {A_begins_light : Addr} {od_begins_light an_begins_light : Option Addr} {sl_begins_light : Array (Option Value)} {oc_begins_light kV_begins_light dc_begins_light pm_begins_light cd_begins_light ct_begins_light : Value}
    {A_white_run : Addr} {od_white_run an_white_run : Option Addr} {sl_white_run : Array (Option Value)} {oc_white_run kV_white_run dc_white_run pm_white_run cd_white_run ct_white_run : Value}
    {A_lights_of : Addr} {od_lights_of an_lights_of : Option Addr} {sl_lights_of : Array (Option Value)} {oc_lights_of kV_lights_of dc_lights_of pm_lights_of cd_lights_of ct_lights_of : Value}
    {A_crossing : Addr} {od_crossing an_crossing : Option Addr} {sl_crossing : Array (Option Value)} {oc_crossing kV_crossing dc_crossing pm_crossing cd_crossing ct_crossing : Value}
    {A_locked_letters : Addr} {od_locked_letters an_locked_letters : Option Addr} {sl_locked_letters : Array (Option Value)} {oc_locked_letters kV_locked_letters dc_locked_letters pm_locked_letters cd_locked_letters ct_locked_letters : Value}
    {A_earlier_crossings : Addr} {od_earlier_crossings an_earlier_crossings : Option Addr} {sl_earlier_crossings : Array (Option Value)} {oc_earlier_crossings kV_earlier_crossings dc_earlier_crossings pm_earlier_crossings cd_earlier_crossings ct_earlier_crossings : Value}
    {A_slots_of : Addr} {od_slots_of an_slots_of : Option Addr} {sl_slots_of : Array (Option Value)} {oc_slots_of kV_slots_of dc_slots_of pm_slots_of cd_slots_of ct_slots_of : Value}
    {A_stands_by_itself : Addr} {od_stands_by_itself an_stands_by_itself : Option Addr} {sl_stands_by_itself : Array (Option Value)} {oc_stands_by_itself kV_stands_by_itself dc_stands_by_itself pm_stands_by_itself cd_stands_by_itself ct_stands_by_itself : Value}
    {A_agrees_with_earlier : Addr} {od_agrees_with_earlier an_agrees_with_earlier : Option Addr} {sl_agrees_with_earlier : Array (Option Value)} {oc_agrees_with_earlier kV_agrees_with_earlier dc_agrees_with_earlier pm_agrees_with_earlier cd_agrees_with_earlier ct_agrees_with_earlier : Value}
    {A_wrong_with : Addr} {od_wrong_with an_wrong_with : Option Addr} {sl_wrong_with : Array (Option Value)} {oc_wrong_with kV_wrong_with dc_wrong_with pm_wrong_with cd_wrong_with ct_wrong_with : Value}
    {A_may_follow_wordlists : Addr} {od_may_follow_wordlists an_may_follow_wordlists : Option Addr} {sl_may_follow_wordlists : Array (Option Value)} {oc_may_follow_wordlists kV_may_follow_wordlists dc_may_follow_wordlists pm_may_follow_wordlists cd_may_follow_wordlists ct_may_follow_wordlists : Value}
    {A_first_fault_of_words : Addr} {od_first_fault_of_words an_first_fault_of_words : Option Addr} {sl_first_fault_of_words : Array (Option Value)} {oc_first_fault_of_words kV_first_fault_of_words dc_first_fault_of_words pm_first_fault_of_words cd_first_fault_of_words ct_first_fault_of_words : Value}
    {A_refused_lattice : Addr} {od_refused_lattice an_refused_lattice : Option Addr} {sl_refused_lattice : Array (Option Value)} {oc_refused_lattice kV_refused_lattice dc_refused_lattice pm_refused_lattice cd_refused_lattice ct_refused_lattice : Value}
    {A_refused_words : Addr} {od_refused_words an_refused_words : Option Addr} {sl_refused_words : Array (Option Value)} {oc_refused_words kV_refused_words dc_refused_words pm_refused_words cd_refused_words ct_refused_words : Value}
    {A_refused_texts : Addr} {od_refused_texts an_refused_texts : Option Addr} {sl_refused_texts : Array (Option Value)} {oc_refused_texts kV_refused_texts dc_refused_texts pm_refused_texts cd_refused_texts ct_refused_texts : Value}
    {A_refused_search : Addr} {od_refused_search an_refused_search : Option Addr} {sl_refused_search : Array (Option Value)} {oc_refused_search kV_refused_search dc_refused_search pm_refused_search cd_refused_search ct_refused_search : Value}
    {A_is_behind : Addr} {od_is_behind an_is_behind : Option Addr} {sl_is_behind : Array (Option Value)} {oc_is_behind kV_is_behind dc_is_behind pm_is_behind cd_is_behind ct_is_behind : Value}
    {A_first_behind : Addr} {od_first_behind an_first_behind : Option Addr} {sl_first_behind : Array (Option Value)} {oc_first_behind kV_first_behind dc_first_behind pm_first_behind cd_first_behind ct_first_behind : Value}
    {A_search_of : Addr} {od_search_of an_search_of : Option Addr} {sl_search_of : Array (Option Value)} {oc_search_of kV_search_of dc_search_of pm_search_of cd_search_of ct_search_of : Value}
    {A_told_filling : Addr} {od_told_filling an_told_filling : Option Addr} {sl_told_filling : Array (Option Value)} {oc_told_filling kV_told_filling dc_told_filling pm_told_filling cd_told_filling ct_told_filling : Value}
    {A_next_of : Addr} {od_next_of an_next_of : Option Addr} {sl_next_of : Array (Option Value)} {oc_next_of kV_next_of dc_next_of pm_next_of cd_next_of ct_next_of : Value}
    {A_Light_init : Addr} {od_Light_init an_Light_init : Option Addr} {sl_Light_init : Array (Option Value)} {oc_Light_init kV_Light_init dc_Light_init pm_Light_init cd_Light_init ct_Light_init : Value}
    {A_Slot_init : Addr} {od_Slot_init an_Slot_init : Option Addr} {sl_Slot_init : Array (Option Value)} {oc_Slot_init kV_Slot_init dc_Slot_init pm_Slot_init cd_Slot_init ct_Slot_init : Value}
    {A_Search_init : Addr} {od_Search_init an_Search_init : Option Addr} {sl_Search_init : Array (Option Value)} {oc_Search_init kV_Search_init dc_Search_init pm_Search_init cd_Search_init ct_Search_init : Value}
    {A_Search_following : Addr} {od_Search_following an_Search_following : Option Addr} {sl_Search_following : Array (Option Value)} {oc_Search_following kV_Search_following dc_Search_following pm_Search_following cd_Search_following ct_Search_following : Value}
    {A_Search_step_back : Addr} {od_Search_step_back an_Search_step_back : Option Addr} {sl_Search_step_back : Array (Option Value)} {oc_Search_step_back kV_Search_step_back dc_Search_step_back pm_Search_step_back cd_Search_step_back ct_Search_step_back : Value}
    {A_Search_try_word : Addr} {od_Search_try_word an_Search_try_word : Option Addr} {sl_Search_try_word : Array (Option Value)} {oc_Search_try_word kV_Search_try_word dc_Search_try_word pm_Search_try_word cd_Search_try_word ct_Search_try_word : Value}
    {t_LINE_END : Tok}
    {t_BLOCK : Tok}
    {t_WHITE : Tok}
    {t_LETTER_A : Tok}
    {t_LETTER_Z : Tok}
    {t_LEAST_SIDE : Tok}
    {t_MOST_SIDE : Tok}
    {t_ACROSS : Tok}
    {t_DOWN : Tok}
    {t_NOTHING_WRONG : Tok}
    {t_NO_SUCH_WORD : Tok}
    {t_NOT_BY_ITSELF : Tok}
    {t_STANDS_BEFORE : Tok}
    {t_CROSSES_WRONGLY : Tok}
    {t_LEAST_LETTERS : Tok}
    {t_MOST_LETTERS : Tok}
    {t_MOST_WORDS : Tok}
    {t_NO_LATTICE : Tok}
    {t_NO_WORDS : Tok}
    {t_OUT_OF_RANGE : Tok}
    {t_NO_SUCH : Tok}
    {t_TOO_FEW : Tok}
    {t_MOST_TRIALS : Tok}
    (m_Light : PySem.W.nsIn K mainGlobals "Light" = some (some (.ref C_Light)))
    (m_Slot : PySem.W.nsIn K mainGlobals "Slot" = some (some (.ref C_Slot)))
    (m_TooFewTrials : PySem.W.nsIn K mainGlobals "TooFewTrials" = some (some (.ref C_TooFewTrials)))
    (x_TooFewTrials : ExcC K C_TooFewTrials)
    (m_Search : PySem.W.nsIn K mainGlobals "Search" = some (some (.ref C_Search)))
    (a_is_letter : PySem.W.nsIn K mainGlobals "is_letter" = some (some (.ref A_is_letter)))
    (l_is_letter : K.lookup A_is_letter = some ⟨oc_is_letter, od_is_letter, .func (PySem.W.fnOf "is_letter" "is_letter" (defArgs s_is_letter) (defBody s_is_letter) (defScope s_is_letter) .none kV_is_letter dc_is_letter pm_is_letter an_is_letter cd_is_letter ct_is_letter), sl_is_letter⟩) (c_is_letter : PySem.W.codeIn K cd_is_letter "is_letter" = true) (k_is_letter : PySem.W.keepIn K (.ref A_is_letter) = true)
    (a_is_cell : PySem.W.nsIn K mainGlobals "is_cell" = some (some (.ref A_is_cell)))
    (l_is_cell : K.lookup A_is_cell = some ⟨oc_is_cell, od_is_cell, .func (PySem.W.fnOf "is_cell" "is_cell" (defArgs s_is_cell) (defBody s_is_cell) (defScope s_is_cell) .none kV_is_cell dc_is_cell pm_is_cell an_is_cell cd_is_cell ct_is_cell), sl_is_cell⟩) (c_is_cell : PySem.W.codeIn K cd_is_cell "is_cell" = true) (k_is_cell : PySem.W.keepIn K (.ref A_is_cell) = true)
    (a_may_follow_texts : PySem.W.nsIn K mainGlobals "may_follow_texts" = some (some (.ref A_may_follow_texts)))
    (l_may_follow_texts : K.lookup A_may_follow_texts = some ⟨oc_may_follow_texts, od_may_follow_texts, .func (PySem.W.fnOf "may_follow" "may_follow" (defArgs s_may_follow_texts) (defBody s_may_follow_texts) (defScope s_may_follow_texts) .none kV_may_follow_texts dc_may_follow_texts pm_may_follow_texts an_may_follow_texts cd_may_follow_texts ct_may_follow_texts), sl_may_follow_texts⟩) (c_may_follow_texts : PySem.W.codeIn K cd_may_follow_texts "may_follow" = true) (k_may_follow_texts : PySem.W.keepIn K (.ref A_may_follow_texts) = true)
    (a_first_fault : PySem.W.nsIn K mainGlobals "first_fault" = some (some (.ref A_first_fault)))
    (l_first_fault : K.lookup A_first_fault = some ⟨oc_first_fault, od_first_fault, .func (PySem.W.fnOf "first_fault" "first_fault" (defArgs s_first_fault) (defBody s_first_fault) (defScope s_first_fault) .none kV_first_fault dc_first_fault pm_first_fault an_first_fault cd_first_fault ct_first_fault), sl_first_fault⟩) (c_first_fault : PySem.W.codeIn K cd_first_fault "first_fault" = true) (k_first_fault : PySem.W.keepIn K (.ref A_first_fault) = true)
    (a_lines_of : PySem.W.nsIn K mainGlobals "lines_of" = some (some (.ref A_lines_of)))
    (l_lines_of : K.lookup A_lines_of = some ⟨oc_lines_of, od_lines_of, .func (PySem.W.fnOf "lines_of" "lines_of" (defArgs s_lines_of) (defBody s_lines_of) (defScope s_lines_of) .none kV_lines_of dc_lines_of pm_lines_of an_lines_of cd_lines_of ct_lines_of), sl_lines_of⟩) (c_lines_of : PySem.W.codeIn K cd_lines_of "lines_of" = true) (k_lines_of : PySem.W.keepIn K (.ref A_lines_of) = true)
    (a_cells_of : PySem.W.nsIn K mainGlobals "cells_of" = some (some (.ref A_cells_of)))
    (l_cells_of : K.lookup A_cells_of = some ⟨oc_cells_of, od_cells_of, .func (PySem.W.fnOf "cells_of" "cells_of" (defArgs s_cells_of) (defBody s_cells_of) (defScope s_cells_of) .none kV_cells_of dc_cells_of pm_cells_of an_cells_of cd_cells_of ct_cells_of), sl_cells_of⟩) (c_cells_of : PySem.W.codeIn K cd_cells_of "cells_of" = true) (k_cells_of : PySem.W.keepIn K (.ref A_cells_of) = true)
    (a_is_white : PySem.W.nsIn K mainGlobals "is_white" = some (some (.ref A_is_white)))
    (l_is_white : K.lookup A_is_white = some ⟨oc_is_white, od_is_white, .func (PySem.W.fnOf "is_white" "is_white" (defArgs s_is_white) (defBody s_is_white) (defScope s_is_white) .none kV_is_white dc_is_white pm_is_white an_is_white cd_is_white ct_is_white), sl_is_white⟩) (c_is_white : PySem.W.codeIn K cd_is_white "is_white" = true) (k_is_white : PySem.W.keepIn K (.ref A_is_white) = true)
    (a_moved : PySem.W.nsIn K mainGlobals "moved" = some (some (.ref A_moved)))
    (l_moved : K.lookup A_moved = some ⟨oc_moved, od_moved, .func (PySem.W.fnOf "moved" "moved" (defArgs s_moved) (defBody s_moved) (defScope s_moved) .none kV_moved dc_moved pm_moved an_moved cd_moved ct_moved), sl_moved⟩) (c_moved : PySem.W.codeIn K cd_moved "moved" = true) (k_moved : PySem.W.keepIn K (.ref A_moved) = true)
    (a_begins_light : PySem.W.nsIn K mainGlobals "begins_light" = some (some (.ref A_begins_light)))
    (l_begins_light : K.lookup A_begins_light = some ⟨oc_begins_light, od_begins_light, .func (PySem.W.fnOf "begins_light" "begins_light" (defArgs s_begins_light) (defBody s_begins_light) (defScope s_begins_light) .none kV_begins_light dc_begins_light pm_begins_light an_begins_light cd_begins_light ct_begins_light), sl_begins_light⟩) (c_begins_light : PySem.W.codeIn K cd_begins_light "begins_light" = true) (k_begins_light : PySem.W.keepIn K (.ref A_begins_light) = true)
    (a_white_run : PySem.W.nsIn K mainGlobals "white_run" = some (some (.ref A_white_run)))
    (l_white_run : K.lookup A_white_run = some ⟨oc_white_run, od_white_run, .func (PySem.W.fnOf "white_run" "white_run" (defArgs s_white_run) (defBody s_white_run) (defScope s_white_run) .none kV_white_run dc_white_run pm_white_run an_white_run cd_white_run ct_white_run), sl_white_run⟩) (c_white_run : PySem.W.codeIn K cd_white_run "white_run" = true) (k_white_run : PySem.W.keepIn K (.ref A_white_run) = true)
    (a_lights_of : PySem.W.nsIn K mainGlobals "lights_of" = some (some (.ref A_lights_of)))
    (l_lights_of : K.lookup A_lights_of = some ⟨oc_lights_of, od_lights_of, .func (PySem.W.fnOf "lights_of" "lights_of" (defArgs s_lights_of) (defBody s_lights_of) (defScope s_lights_of) .none kV_lights_of dc_lights_of pm_lights_of an_lights_of cd_lights_of ct_lights_of), sl_lights_of⟩) (c_lights_of : PySem.W.codeIn K cd_lights_of "lights_of" = true) (k_lights_of : PySem.W.keepIn K (.ref A_lights_of) = true)
    (a_crossing : PySem.W.nsIn K mainGlobals "crossing" = some (some (.ref A_crossing)))
    (l_crossing : K.lookup A_crossing = some ⟨oc_crossing, od_crossing, .func (PySem.W.fnOf "crossing" "crossing" (defArgs s_crossing) (defBody s_crossing) (defScope s_crossing) .none kV_crossing dc_crossing pm_crossing an_crossing cd_crossing ct_crossing), sl_crossing⟩) (c_crossing : PySem.W.codeIn K cd_crossing "crossing" = true) (k_crossing : PySem.W.keepIn K (.ref A_crossing) = true)
    (a_locked_letters : PySem.W.nsIn K mainGlobals "locked_letters" = some (some (.ref A_locked_letters)))
    (l_locked_letters : K.lookup A_locked_letters = some ⟨oc_locked_letters, od_locked_letters, .func (PySem.W.fnOf "locked_letters" "locked_letters" (defArgs s_locked_letters) (defBody s_locked_letters) (defScope s_locked_letters) .none kV_locked_letters dc_locked_letters pm_locked_letters an_locked_letters cd_locked_letters ct_locked_letters), sl_locked_letters⟩) (c_locked_letters : PySem.W.codeIn K cd_locked_letters "locked_letters" = true) (k_locked_letters : PySem.W.keepIn K (.ref A_locked_letters) = true)
    (a_earlier_crossings : PySem.W.nsIn K mainGlobals "earlier_crossings" = some (some (.ref A_earlier_crossings)))
    (l_earlier_crossings : K.lookup A_earlier_crossings = some ⟨oc_earlier_crossings, od_earlier_crossings, .func (PySem.W.fnOf "earlier_crossings" "earlier_crossings" (defArgs s_earlier_crossings) (defBody s_earlier_crossings) (defScope s_earlier_crossings) .none kV_earlier_crossings dc_earlier_crossings pm_earlier_crossings an_earlier_crossings cd_earlier_crossings ct_earlier_crossings), sl_earlier_crossings⟩) (c_earlier_crossings : PySem.W.codeIn K cd_earlier_crossings "earlier_crossings" = true) (k_earlier_crossings : PySem.W.keepIn K (.ref A_earlier_crossings) = true)
    (a_slots_of : PySem.W.nsIn K mainGlobals "slots_of" = some (some (.ref A_slots_of)))
    (l_slots_of : K.lookup A_slots_of = some ⟨oc_slots_of, od_slots_of, .func (PySem.W.fnOf "slots_of" "slots_of" (defArgs s_slots_of) (defBody s_slots_of) (defScope s_slots_of) .none kV_slots_of dc_slots_of pm_slots_of an_slots_of cd_slots_of ct_slots_of), sl_slots_of⟩) (c_slots_of : PySem.W.codeIn K cd_slots_of "slots_of" = true) (k_slots_of : PySem.W.keepIn K (.ref A_slots_of) = true)
    (a_stands_by_itself : PySem.W.nsIn K mainGlobals "stands_by_itself" = some (some (.ref A_stands_by_itself)))
    (l_stands_by_itself : K.lookup A_stands_by_itself = some ⟨oc_stands_by_itself, od_stands_by_itself, .func (PySem.W.fnOf "stands_by_itself" "stands_by_itself" (defArgs s_stands_by_itself) (defBody s_stands_by_itself) (defScope s_stands_by_itself) .none kV_stands_by_itself dc_stands_by_itself pm_stands_by_itself an_stands_by_itself cd_stands_by_itself ct_stands_by_itself), sl_stands_by_itself⟩) (c_stands_by_itself : PySem.W.codeIn K cd_stands_by_itself "stands_by_itself" = true) (k_stands_by_itself : PySem.W.keepIn K (.ref A_stands_by_itself) = true)
    (a_agrees_with_earlier : PySem.W.nsIn K mainGlobals "agrees_with_earlier" = some (some (.ref A_agrees_with_earlier)))
    (l_agrees_with_earlier : K.lookup A_agrees_with_earlier = some ⟨oc_agrees_with_earlier, od_agrees_with_earlier, .func (PySem.W.fnOf "agrees_with_earlier" "agrees_with_earlier" (defArgs s_agrees_with_earlier) (defBody s_agrees_with_earlier) (defScope s_agrees_with_earlier) .none kV_agrees_with_earlier dc_agrees_with_earlier pm_agrees_with_earlier an_agrees_with_earlier cd_agrees_with_earlier ct_agrees_with_earlier), sl_agrees_with_earlier⟩) (c_agrees_with_earlier : PySem.W.codeIn K cd_agrees_with_earlier "agrees_with_earlier" = true) (k_agrees_with_earlier : PySem.W.keepIn K (.ref A_agrees_with_earlier) = true)
    (a_wrong_with : PySem.W.nsIn K mainGlobals "wrong_with" = some (some (.ref A_wrong_with)))
    (l_wrong_with : K.lookup A_wrong_with = some ⟨oc_wrong_with, od_wrong_with, .func (PySem.W.fnOf "wrong_with" "wrong_with" (defArgs s_wrong_with) (defBody s_wrong_with) (defScope s_wrong_with) .none kV_wrong_with dc_wrong_with pm_wrong_with an_wrong_with cd_wrong_with ct_wrong_with), sl_wrong_with⟩) (c_wrong_with : PySem.W.codeIn K cd_wrong_with "wrong_with" = true) (k_wrong_with : PySem.W.keepIn K (.ref A_wrong_with) = true)
    (a_may_follow_wordlists : PySem.W.nsIn K mainGlobals "may_follow_wordlists" = some (some (.ref A_may_follow_wordlists)))
    (l_may_follow_wordlists : K.lookup A_may_follow_wordlists = some ⟨oc_may_follow_wordlists, od_may_follow_wordlists, .func (PySem.W.fnOf "may_follow" "may_follow" (defArgs s_may_follow_wordlists) (defBody s_may_follow_wordlists) (defScope s_may_follow_wordlists) .none kV_may_follow_wordlists dc_may_follow_wordlists pm_may_follow_wordlists an_may_follow_wordlists cd_may_follow_wordlists ct_may_follow_wordlists), sl_may_follow_wordlists⟩) (c_may_follow_wordlists : PySem.W.codeIn K cd_may_follow_wordlists "may_follow" = true) (k_may_follow_wordlists : PySem.W.keepIn K (.ref A_may_follow_wordlists) = true)
    (a_first_fault_of_words : PySem.W.nsIn K mainGlobals "first_fault_of_words" = some (some (.ref A_first_fault_of_words)))
    (l_first_fault_of_words : K.lookup A_first_fault_of_words = some ⟨oc_first_fault_of_words, od_first_fault_of_words, .func (PySem.W.fnOf "first_fault_of_words" "first_fault_of_words" (defArgs s_first_fault_of_words) (defBody s_first_fault_of_words) (defScope s_first_fault_of_words) .none kV_first_fault_of_words dc_first_fault_of_words pm_first_fault_of_words an_first_fault_of_words cd_first_fault_of_words ct_first_fault_of_words), sl_first_fault_of_words⟩) (c_first_fault_of_words : PySem.W.codeIn K cd_first_fault_of_words "first_fault_of_words" = true) (k_first_fault_of_words : PySem.W.keepIn K (.ref A_first_fault_of_words) = true)
    (a_refused_lattice : PySem.W.nsIn K mainGlobals "refused_lattice" = some (some (.ref A_refused_lattice)))
    (l_refused_lattice : K.lookup A_refused_lattice = some ⟨oc_refused_lattice, od_refused_lattice, .func (PySem.W.fnOf "refused_lattice" "refused_lattice" (defArgs s_refused_lattice) (defBody s_refused_lattice) (defScope s_refused_lattice) .none kV_refused_lattice dc_refused_lattice pm_refused_lattice an_refused_lattice cd_refused_lattice ct_refused_lattice), sl_refused_lattice⟩) (c_refused_lattice : PySem.W.codeIn K cd_refused_lattice "refused_lattice" = true) (k_refused_lattice : PySem.W.keepIn K (.ref A_refused_lattice) = true)
    (a_refused_words : PySem.W.nsIn K mainGlobals "refused_words" = some (some (.ref A_refused_words)))
    (l_refused_words : K.lookup A_refused_words = some ⟨oc_refused_words, od_refused_words, .func (PySem.W.fnOf "refused_words" "refused_words" (defArgs s_refused_words) (defBody s_refused_words) (defScope s_refused_words) .none kV_refused_words dc_refused_words pm_refused_words an_refused_words cd_refused_words ct_refused_words), sl_refused_words⟩) (c_refused_words : PySem.W.codeIn K cd_refused_words "refused_words" = true) (k_refused_words : PySem.W.keepIn K (.ref A_refused_words) = true)
    (a_refused_texts : PySem.W.nsIn K mainGlobals "refused_texts" = some (some (.ref A_refused_texts)))
    (l_refused_texts : K.lookup A_refused_texts = some ⟨oc_refused_texts, od_refused_texts, .func (PySem.W.fnOf "refused_texts" "refused_texts" (defArgs s_refused_texts) (defBody s_refused_texts) (defScope s_refused_texts) .none kV_refused_texts dc_refused_texts pm_refused_texts an_refused_texts cd_refused_texts ct_refused_texts), sl_refused_texts⟩) (c_refused_texts : PySem.W.codeIn K cd_refused_texts "refused_texts" = true) (k_refused_texts : PySem.W.keepIn K (.ref A_refused_texts) = true)
    (a_refused_search : PySem.W.nsIn K mainGlobals "refused_search" = some (some (.ref A_refused_search)))
    (l_refused_search : K.lookup A_refused_search = some ⟨oc_refused_search, od_refused_search, .func (PySem.W.fnOf "refused_search" "refused_search" (defArgs s_refused_search) (defBody s_refused_search) (defScope s_refused_search) .none kV_refused_search dc_refused_search pm_refused_search an_refused_search cd_refused_search ct_refused_search), sl_refused_search⟩) (c_refused_search : PySem.W.codeIn K cd_refused_search "refused_search" = true) (k_refused_search : PySem.W.keepIn K (.ref A_refused_search) = true)
    (a_is_behind : PySem.W.nsIn K mainGlobals "is_behind" = some (some (.ref A_is_behind)))
    (l_is_behind : K.lookup A_is_behind = some ⟨oc_is_behind, od_is_behind, .func (PySem.W.fnOf "is_behind" "is_behind" (defArgs s_is_behind) (defBody s_is_behind) (defScope s_is_behind) .none kV_is_behind dc_is_behind pm_is_behind an_is_behind cd_is_behind ct_is_behind), sl_is_behind⟩) (c_is_behind : PySem.W.codeIn K cd_is_behind "is_behind" = true) (k_is_behind : PySem.W.keepIn K (.ref A_is_behind) = true)
    (a_first_behind : PySem.W.nsIn K mainGlobals "first_behind" = some (some (.ref A_first_behind)))
    (l_first_behind : K.lookup A_first_behind = some ⟨oc_first_behind, od_first_behind, .func (PySem.W.fnOf "first_behind" "first_behind" (defArgs s_first_behind) (defBody s_first_behind) (defScope s_first_behind) .none kV_first_behind dc_first_behind pm_first_behind an_first_behind cd_first_behind ct_first_behind), sl_first_behind⟩) (c_first_behind : PySem.W.codeIn K cd_first_behind "first_behind" = true) (k_first_behind : PySem.W.keepIn K (.ref A_first_behind) = true)
    (a_search_of : PySem.W.nsIn K mainGlobals "search_of" = some (some (.ref A_search_of)))
    (l_search_of : K.lookup A_search_of = some ⟨oc_search_of, od_search_of, .func (PySem.W.fnOf "search_of" "search_of" (defArgs s_search_of) (defBody s_search_of) (defScope s_search_of) .none kV_search_of dc_search_of pm_search_of an_search_of cd_search_of ct_search_of), sl_search_of⟩) (c_search_of : PySem.W.codeIn K cd_search_of "search_of" = true) (k_search_of : PySem.W.keepIn K (.ref A_search_of) = true)
    (a_told_filling : PySem.W.nsIn K mainGlobals "told_filling" = some (some (.ref A_told_filling)))
    (l_told_filling : K.lookup A_told_filling = some ⟨oc_told_filling, od_told_filling, .func (PySem.W.fnOf "told_filling" "told_filling" (defArgs s_told_filling) (defBody s_told_filling) (defScope s_told_filling) .none kV_told_filling dc_told_filling pm_told_filling an_told_filling cd_told_filling ct_told_filling), sl_told_filling⟩) (c_told_filling : PySem.W.codeIn K cd_told_filling "told_filling" = true) (k_told_filling : PySem.W.keepIn K (.ref A_told_filling) = true)
    (a_next_of : PySem.W.nsIn K mainGlobals "next_of" = some (some (.ref A_next_of)))
    (l_next_of : K.lookup A_next_of = some ⟨oc_next_of, od_next_of, .func (PySem.W.fnOf "next_of" "next_of" (defArgs s_next_of) (defBody s_next_of) (defScope s_next_of) .none kV_next_of dc_next_of pm_next_of an_next_of cd_next_of ct_next_of), sl_next_of⟩) (c_next_of : PySem.W.codeIn K cd_next_of "next_of" = true) (k_next_of : PySem.W.keepIn K (.ref A_next_of) = true)
    (a_Light_init : PySem.W.findIn K (.ref C_Light) "__init__" = some (some (.ref A_Light_init))) (i_Light_init : PySem.W.isFn K (.ref A_Light_init) = true)
    (l_Light_init : K.lookup A_Light_init = some ⟨oc_Light_init, od_Light_init, .func (PySem.W.fnOf "__init__" "Light.__init__" (defArgs s_Light_init) (defBody s_Light_init) (defScope s_Light_init) .none kV_Light_init dc_Light_init pm_Light_init an_Light_init cd_Light_init ct_Light_init), sl_Light_init⟩) (c_Light_init : PySem.W.codeIn K cd_Light_init "Light.__init__" = true) (k_Light_init : PySem.W.keepIn K (.ref A_Light_init) = true)
    (a_Slot_init : PySem.W.findIn K (.ref C_Slot) "__init__" = some (some (.ref A_Slot_init))) (i_Slot_init : PySem.W.isFn K (.ref A_Slot_init) = true)
    (l_Slot_init : K.lookup A_Slot_init = some ⟨oc_Slot_init, od_Slot_init, .func (PySem.W.fnOf "__init__" "Slot.__init__" (defArgs s_Slot_init) (defBody s_Slot_init) (defScope s_Slot_init) .none kV_Slot_init dc_Slot_init pm_Slot_init an_Slot_init cd_Slot_init ct_Slot_init), sl_Slot_init⟩) (c_Slot_init : PySem.W.codeIn K cd_Slot_init "Slot.__init__" = true) (k_Slot_init : PySem.W.keepIn K (.ref A_Slot_init) = true)
    (a_Search_init : PySem.W.findIn K (.ref C_Search) "__init__" = some (some (.ref A_Search_init))) (i_Search_init : PySem.W.isFn K (.ref A_Search_init) = true)
    (l_Search_init : K.lookup A_Search_init = some ⟨oc_Search_init, od_Search_init, .func (PySem.W.fnOf "__init__" "Search.__init__" (defArgs s_Search_init) (defBody s_Search_init) (defScope s_Search_init) .none kV_Search_init dc_Search_init pm_Search_init an_Search_init cd_Search_init ct_Search_init), sl_Search_init⟩) (c_Search_init : PySem.W.codeIn K cd_Search_init "Search.__init__" = true) (k_Search_init : PySem.W.keepIn K (.ref A_Search_init) = true)
    (a_Search_following : PySem.W.findIn K (.ref C_Search) "following" = some (some (.ref A_Search_following))) (i_Search_following : PySem.W.isFn K (.ref A_Search_following) = true)
    (l_Search_following : K.lookup A_Search_following = some ⟨oc_Search_following, od_Search_following, .func (PySem.W.fnOf "following" "Search.following" (defArgs s_Search_following) (defBody s_Search_following) (defScope s_Search_following) .none kV_Search_following dc_Search_following pm_Search_following an_Search_following cd_Search_following ct_Search_following), sl_Search_following⟩) (c_Search_following : PySem.W.codeIn K cd_Search_following "Search.following" = true) (k_Search_following : PySem.W.keepIn K (.ref A_Search_following) = true)
    (a_Search_step_back : PySem.W.findIn K (.ref C_Search) "step_back" = some (some (.ref A_Search_step_back))) (i_Search_step_back : PySem.W.isFn K (.ref A_Search_step_back) = true)
    (l_Search_step_back : K.lookup A_Search_step_back = some ⟨oc_Search_step_back, od_Search_step_back, .func (PySem.W.fnOf "step_back" "Search.step_back" (defArgs s_Search_step_back) (defBody s_Search_step_back) (defScope s_Search_step_back) .none kV_Search_step_back dc_Search_step_back pm_Search_step_back an_Search_step_back cd_Search_step_back ct_Search_step_back), sl_Search_step_back⟩) (c_Search_step_back : PySem.W.codeIn K cd_Search_step_back "Search.step_back" = true) (k_Search_step_back : PySem.W.keepIn K (.ref A_Search_step_back) = true)
    (a_Search_try_word : PySem.W.findIn K (.ref C_Search) "try_word" = some (some (.ref A_Search_try_word))) (i_Search_try_word : PySem.W.isFn K (.ref A_Search_try_word) = true)
    (l_Search_try_word : K.lookup A_Search_try_word = some ⟨oc_Search_try_word, od_Search_try_word, .func (PySem.W.fnOf "try_word" "Search.try_word" (defArgs s_Search_try_word) (defBody s_Search_try_word) (defScope s_Search_try_word) .none kV_Search_try_word dc_Search_try_word pm_Search_try_word an_Search_try_word cd_Search_try_word ct_Search_try_word), sl_Search_try_word⟩) (c_Search_try_word : PySem.W.codeIn K cd_Search_try_word "Search.try_word" = true) (k_Search_try_word : PySem.W.keepIn K (.ref A_Search_try_word) = true)
    (pg_Light : PySem.W.plainGet K C_Light Str.empty = true) (hd_Light : PySem.W.hasDictIn K C_Light = true) (po_Light : PySem.W.plainOver K C_Light = true) (sa_Light : PySem.W.findIn K (.ref C_Light) "__setattr__" = some (some (.builtin "object.__setattr__"))) (mk_Light : PySem.W.makesIn K C_Light = true) (kc_Light : PySem.W.keepIn K (.ref C_Light) = true)
    (n_Light_number : PySem.W.findIn K (.ref C_Light) "number" = some none)
    (n_Light_way : PySem.W.findIn K (.ref C_Light) "way" = some none)
    (n_Light_cells : PySem.W.findIn K (.ref C_Light) "cells" = some none)
    (pg_Slot : PySem.W.plainGet K C_Slot Str.empty = true) (hd_Slot : PySem.W.hasDictIn K C_Slot = true) (po_Slot : PySem.W.plainOver K C_Slot = true) (sa_Slot : PySem.W.findIn K (.ref C_Slot) "__setattr__" = some (some (.builtin "object.__setattr__"))) (mk_Slot : PySem.W.makesIn K C_Slot = true) (kc_Slot : PySem.W.keepIn K (.ref C_Slot) = true)
    (n_Slot_cells : PySem.W.findIn K (.ref C_Slot) "cells" = some none)
    (n_Slot_locked : PySem.W.findIn K (.ref C_Slot) "locked" = some none)
    (n_Slot_crossings : PySem.W.findIn K (.ref C_Slot) "crossings" = some none)
    (pg_Search : PySem.W.plainGet K C_Search Str.empty = true) (hd_Search : PySem.W.hasDictIn K C_Search = true) (po_Search : PySem.W.plainOver K C_Search = true) (sa_Search : PySem.W.findIn K (.ref C_Search) "__setattr__" = some (some (.builtin "object.__setattr__"))) (mk_Search : PySem.W.makesIn K C_Search = true) (kc_Search : PySem.W.keepIn K (.ref C_Search) = true)
    (n_Search_slots : PySem.W.findIn K (.ref C_Search) "slots" = some none)
    (n_Search_words : PySem.W.findIn K (.ref C_Search) "words" = some none)
    (n_Search_trials : PySem.W.findIn K (.ref C_Search) "trials" = some none)
    (n_Search_standing : PySem.W.findIn K (.ref C_Search) "standing" = some none)
    (n_Search_number : PySem.W.findIn K (.ref C_Search) "number" = some none)
    (n_Search_begun : PySem.W.findIn K (.ref C_Search) "begun" = some none)
    (z_enumerate : PySem.W.nsIn K mainGlobals "enumerate" = some none)
    (z_len : PySem.W.nsIn K mainGlobals "len" = some none)
    (z_list : PySem.W.nsIn K mainGlobals "list" = some none)
    (z_range : PySem.W.nsIn K mainGlobals "range" = some none)
    (z_zip : PySem.W.nsIn K mainGlobals "zip" = some none)
    (g_LINE_END : PySem.W.nsIn K mainGlobals "LINE_END" = some (some (.int (10) t_LINE_END)))
    (g_BLOCK : PySem.W.nsIn K mainGlobals "BLOCK" = some (some (.int (35) t_BLOCK)))
    (g_WHITE : PySem.W.nsIn K mainGlobals "WHITE" = some (some (.int (46) t_WHITE)))
    (g_LETTER_A : PySem.W.nsIn K mainGlobals "LETTER_A" = some (some (.int (65) t_LETTER_A)))
    (g_LETTER_Z : PySem.W.nsIn K mainGlobals "LETTER_Z" = some (some (.int (90) t_LETTER_Z)))
    (g_LEAST_SIDE : PySem.W.nsIn K mainGlobals "LEAST_SIDE" = some (some (.int (2) t_LEAST_SIDE)))
    (g_MOST_SIDE : PySem.W.nsIn K mainGlobals "MOST_SIDE" = some (some (.int (9) t_MOST_SIDE)))
    (g_ACROSS : PySem.W.nsIn K mainGlobals "ACROSS" = some (some (.int (0) t_ACROSS)))
    (g_DOWN : PySem.W.nsIn K mainGlobals "DOWN" = some (some (.int (1) t_DOWN)))
    (g_NOTHING_WRONG : PySem.W.nsIn K mainGlobals "NOTHING_WRONG" = some (some (.int (0) t_NOTHING_WRONG)))
    (g_NO_SUCH_WORD : PySem.W.nsIn K mainGlobals "NO_SUCH_WORD" = some (some (.int (2) t_NO_SUCH_WORD)))
    (g_NOT_BY_ITSELF : PySem.W.nsIn K mainGlobals "NOT_BY_ITSELF" = some (some (.int (3) t_NOT_BY_ITSELF)))
    (g_STANDS_BEFORE : PySem.W.nsIn K mainGlobals "STANDS_BEFORE" = some (some (.int (4) t_STANDS_BEFORE)))
    (g_CROSSES_WRONGLY : PySem.W.nsIn K mainGlobals "CROSSES_WRONGLY" = some (some (.int (5) t_CROSSES_WRONGLY)))
    (g_LEAST_LETTERS : PySem.W.nsIn K mainGlobals "LEAST_LETTERS" = some (some (.int (2) t_LEAST_LETTERS)))
    (g_MOST_LETTERS : PySem.W.nsIn K mainGlobals "MOST_LETTERS" = some (some (.int (9) t_MOST_LETTERS)))
    (g_MOST_WORDS : PySem.W.nsIn K mainGlobals "MOST_WORDS" = some (some (.int (200) t_MOST_WORDS)))
    (g_NO_LATTICE : PySem.W.nsIn K mainGlobals "NO_LATTICE" = some (some (.int (-6) t_NO_LATTICE)))
    (g_NO_WORDS : PySem.W.nsIn K mainGlobals "NO_WORDS" = some (some (.int (-9) t_NO_WORDS)))
    (g_OUT_OF_RANGE : PySem.W.nsIn K mainGlobals "OUT_OF_RANGE" = some (some (.int (-1) t_OUT_OF_RANGE)))
    (g_NO_SUCH : PySem.W.nsIn K mainGlobals "NO_SUCH" = some (some (.int (-4) t_NO_SUCH)))
    (g_TOO_FEW : PySem.W.nsIn K mainGlobals "TOO_FEW" = some (some (.int (-7) t_TOO_FEW)))
    (g_MOST_TRIALS : PySem.W.nsIn K mainGlobals "MOST_TRIALS" = some (some (.int (100000) t_MOST_TRIALS))) :
    ∃ fd : FuncData, (∀ (s : Shared) (us : List Value), us.length = (["n", "t", "w", "a"] : List Str).length → BindsTo s fd ⟨us, []⟩ ((["n", "t", "w", "a"] : List Str).zip us)) ∧ ∀ base : Heap, K.In base → base.Ns mainGlobals mg → FnOk P w K mg base CX0 9 fa fd ["n", "t", "w", "a"] (sp_next_of K) := by
  have e := hfa.symm.trans (PySem.W.mg_of X G a_next_of)
  cases e
  have F_is_letter := fun_mk (st := s_is_letter) l_is_letter c_is_letter k_is_letter
  have bd_is_letter := F_is_letter.binds (ps := ["byte"]) fun _ _ _ _ _ _ us hl => by obtain ⟨_, rfl⟩ := un1 hl; rfl
  have F_is_cell := fun_mk (st := s_is_cell) l_is_cell c_is_cell k_is_cell
  have bd_is_cell := F_is_cell.binds (ps := ["byte"]) fun _ _ _ _ _ _ us hl => by obtain ⟨_, rfl⟩ := un1 hl; rfl
  have F_may_follow_texts := fun_mk (st := s_may_follow_texts) l_may_follow_texts c_may_follow_texts k_may_follow_texts
  have bd_may_follow_texts := F_may_follow_texts.binds (ps := ["byte", "row", "column", "least", "most"]) fun _ _ _ _ _ _ us hl => by obtain ⟨_, _, _, _, _, rfl⟩ := un5 hl; rfl
  have F_first_fault := fun_mk (st := s_first_fault) l_first_fault c_first_fault k_first_fault
  have bd_first_fault := F_first_fault.binds (ps := ["t"]) fun _ _ _ _ _ _ us hl => by obtain ⟨_, rfl⟩ := un1 hl; rfl
  have F_lines_of := fun_mk (st := s_lines_of) l_lines_of c_lines_of k_lines_of
  have bd_lines_of := F_lines_of.binds (ps := ["text"]) fun _ _ _ _ _ _ us hl => by obtain ⟨_, rfl⟩ := un1 hl; rfl
  have F_cells_of := fun_mk (st := s_cells_of) l_cells_of c_cells_of k_cells_of
  have bd_cells_of := F_cells_of.binds (ps := ["rows"]) fun _ _ _ _ _ _ us hl => by obtain ⟨_, rfl⟩ := un1 hl; rfl
  have F_is_white := fun_mk (st := s_is_white) l_is_white c_is_white k_is_white
  have bd_is_white := F_is_white.binds (ps := ["rows", "cell"]) fun _ _ _ _ _ _ us hl => by obtain ⟨_, _, rfl⟩ := un2 hl; rfl
  have F_moved := fun_mk (st := s_moved) l_moved c_moved k_moved
  have bd_moved := F_moved.binds (ps := ["cell", "way", "steps"]) fun _ _ _ _ _ _ us hl => by obtain ⟨_, _, _, rfl⟩ := un3 hl; rfl
  have F_begins_light := fun_mk (st := s_begins_light) l_begins_light c_begins_light k_begins_light
  have bd_begins_light := F_begins_light.binds (ps := ["rows", "cell", "way"]) fun _ _ _ _ _ _ us hl => by obtain ⟨_, _, _, rfl⟩ := un3 hl; rfl
  have F_white_run := fun_mk (st := s_white_run) l_white_run c_white_run k_white_run
  have bd_white_run := F_white_run.binds (ps := ["rows", "start", "way"]) fun _ _ _ _ _ _ us hl => by obtain ⟨_, _, _, rfl⟩ := un3 hl; rfl
  have F_lights_of := fun_mk (st := s_lights_of) l_lights_of c_lights_of k_lights_of
  have bd_lights_of := F_lights_of.binds (ps := ["rows"]) fun _ _ _ _ _ _ us hl => by obtain ⟨_, rfl⟩ := un1 hl; rfl
  have F_crossing := fun_mk (st := s_crossing) l_crossing c_crossing k_crossing
  have bd_crossing := F_crossing.binds (ps := ["light", "other"]) fun _ _ _ _ _ _ us hl => by obtain ⟨_, _, rfl⟩ := un2 hl; rfl
  have F_locked_letters := fun_mk (st := s_locked_letters) l_locked_letters c_locked_letters k_locked_letters
  have bd_locked_letters := F_locked_letters.binds (ps := ["rows", "light"]) fun _ _ _ _ _ _ us hl => by obtain ⟨_, _, rfl⟩ := un2 hl; rfl
  have F_earlier_crossings := fun_mk (st := s_earlier_crossings) l_earlier_crossings c_earlier_crossings k_earlier_crossings
  have bd_earlier_crossings := F_earlier_crossings.binds (ps := ["lights", "light"]) fun _ _ _ _ _ _ us hl => by obtain ⟨_, _, rfl⟩ := un2 hl; rfl
  have F_slots_of := fun_mk (st := s_slots_of) l_slots_of c_slots_of k_slots_of
  have bd_slots_of := F_slots_of.binds (ps := ["rows"]) fun _ _ _ _ _ _ us hl => by obtain ⟨_, rfl⟩ := un1 hl; rfl
  have F_stands_by_itself := fun_mk (st := s_stands_by_itself) l_stands_by_itself c_stands_by_itself k_stands_by_itself
  have bd_stands_by_itself := F_stands_by_itself.binds (ps := ["slot", "word"]) fun _ _ _ _ _ _ us hl => by obtain ⟨_, _, rfl⟩ := un2 hl; rfl
  have F_agrees_with_earlier := fun_mk (st := s_agrees_with_earlier) l_agrees_with_earlier c_agrees_with_earlier k_agrees_with_earlier
  have bd_agrees_with_earlier := F_agrees_with_earlier.binds (ps := ["slot", "words", "earlier", "word"]) fun _ _ _ _ _ _ us hl => by obtain ⟨_, _, _, _, rfl⟩ := un4 hl; rfl
  have F_wrong_with := fun_mk (st := s_wrong_with) l_wrong_with c_wrong_with k_wrong_with
  have bd_wrong_with := F_wrong_with.binds (ps := ["slots", "words", "earlier", "number"]) fun _ _ _ _ _ _ us hl => by obtain ⟨_, _, _, _, rfl⟩ := un4 hl; rfl
  have F_may_follow_wordlists := fun_mk (st := s_may_follow_wordlists) l_may_follow_wordlists c_may_follow_wordlists k_may_follow_wordlists
  have bd_may_follow_wordlists := F_may_follow_wordlists.binds (ps := ["byte", "whole", "letters"]) fun _ _ _ _ _ _ us hl => by obtain ⟨_, _, _, rfl⟩ := un3 hl; rfl
  have F_first_fault_of_words := fun_mk (st := s_first_fault_of_words) l_first_fault_of_words c_first_fault_of_words k_first_fault_of_words
  have bd_first_fault_of_words := F_first_fault_of_words.binds (ps := ["w"]) fun _ _ _ _ _ _ us hl => by obtain ⟨_, rfl⟩ := un1 hl; rfl
  have F_refused_lattice := fun_mk (st := s_refused_lattice) l_refused_lattice c_refused_lattice k_refused_lattice
  have bd_refused_lattice := F_refused_lattice.binds (ps := ["t"]) fun _ _ _ _ _ _ us hl => by obtain ⟨_, rfl⟩ := un1 hl; rfl
  have F_refused_words := fun_mk (st := s_refused_words) l_refused_words c_refused_words k_refused_words
  have bd_refused_words := F_refused_words.binds (ps := ["w"]) fun _ _ _ _ _ _ us hl => by obtain ⟨_, rfl⟩ := un1 hl; rfl
  have F_refused_texts := fun_mk (st := s_refused_texts) l_refused_texts c_refused_texts k_refused_texts
  have bd_refused_texts := F_refused_texts.binds (ps := ["t", "w"]) fun _ _ _ _ _ _ us hl => by obtain ⟨_, _, rfl⟩ := un2 hl; rfl
  have F_refused_search := fun_mk (st := s_refused_search) l_refused_search c_refused_search k_refused_search
  have bd_refused_search := F_refused_search.binds (ps := ["n", "t", "w"]) fun _ _ _ _ _ _ us hl => by obtain ⟨_, _, _, rfl⟩ := un3 hl; rfl
  have F_is_behind := fun_mk (st := s_is_behind) l_is_behind c_is_behind k_is_behind
  have bd_is_behind := F_is_behind.binds (ps := ["filling", "numbers"]) fun _ _ _ _ _ _ us hl => by obtain ⟨_, _, rfl⟩ := un2 hl; rfl
  have F_first_behind := fun_mk (st := s_first_behind) l_first_behind c_first_behind k_first_behind
  have bd_first_behind := F_first_behind.binds (ps := ["search", "numbers"]) fun _ _ _ _ _ _ us hl => by obtain ⟨_, _, rfl⟩ := un2 hl; rfl
  have F_search_of := fun_mk (st := s_search_of) l_search_of c_search_of k_search_of
  have bd_search_of := F_search_of.binds (ps := ["n", "t", "w"]) fun _ _ _ _ _ _ us hl => by obtain ⟨_, _, _, rfl⟩ := un3 hl; rfl
  have F_told_filling := fun_mk (st := s_told_filling) l_told_filling c_told_filling k_told_filling
  have bd_told_filling := F_told_filling.binds (ps := ["filling"]) fun _ _ _ _ _ _ us hl => by obtain ⟨_, rfl⟩ := un1 hl; rfl
  have F_next_of := fun_mk (st := s_next_of) l_next_of c_next_of k_next_of
  have bd_next_of := F_next_of.binds (ps := ["n", "t", "w", "a"]) fun _ _ _ _ _ _ us hl => by obtain ⟨_, _, _, _, rfl⟩ := un4 hl; rfl
  have F_Light_init := fun_mk (st := s_Light_init) l_Light_init c_Light_init k_Light_init
  have bd_Light_init := F_Light_init.binds (ps := ["self", "number", "way", "cells"]) fun _ _ _ _ _ _ us hl => by obtain ⟨_, _, _, _, rfl⟩ := un4 hl; rfl
  have F_Slot_init := fun_mk (st := s_Slot_init) l_Slot_init c_Slot_init k_Slot_init
  have bd_Slot_init := F_Slot_init.binds (ps := ["self", "cells", "locked", "crossings"]) fun _ _ _ _ _ _ us hl => by obtain ⟨_, _, _, _, rfl⟩ := un4 hl; rfl
  have F_Search_init := fun_mk (st := s_Search_init) l_Search_init c_Search_init k_Search_init
  have bd_Search_init := F_Search_init.binds (ps := ["self", "slots", "words", "trials"]) fun _ _ _ _ _ _ us hl => by obtain ⟨_, _, _, _, rfl⟩ := un4 hl; rfl
  have F_Search_following := fun_mk (st := s_Search_following) l_Search_following c_Search_following k_Search_following
  have bd_Search_following := F_Search_following.binds (ps := ["self"]) fun _ _ _ _ _ _ us hl => by obtain ⟨_, rfl⟩ := un1 hl; rfl
  have F_Search_step_back := fun_mk (st := s_Search_step_back) l_Search_step_back c_Search_step_back k_Search_step_back
  have bd_Search_step_back := F_Search_step_back.binds (ps := ["self"]) fun _ _ _ _ _ _ us hl => by obtain ⟨_, rfl⟩ := un1 hl; rfl
  have F_Search_try_word := fun_mk (st := s_Search_try_word) l_Search_try_word c_Search_try_word k_Search_try_word
  have bd_Search_try_word := F_Search_try_word.binds (ps := ["self"]) fun _ _ _ _ _ _ us hl => by obtain ⟨_, rfl⟩ := un1 hl; rfl
  have T : Txt K mg { a_is_letter := A_is_letter, a_is_cell := A_is_cell, a_may_follow_texts := A_may_follow_texts, a_first_fault := A_first_fault, a_lines_of := A_lines_of, a_cells_of := A_cells_of, a_is_white := A_is_white, a_moved := A_moved, a_begins_light := A_begins_light, a_white_run := A_white_run, a_lights_of := A_lights_of, a_crossing := A_crossing, a_locked_letters := A_locked_letters, a_earlier_crossings := A_earlier_crossings, a_slots_of := A_slots_of, a_stands_by_itself := A_stands_by_itself, a_agrees_with_earlier := A_agrees_with_earlier, a_wrong_with := A_wrong_with, a_may_follow_wordlists := A_may_follow_wordlists, a_first_fault_of_words := A_first_fault_of_words, a_refused_lattice := A_refused_lattice, a_refused_words := A_refused_words, a_refused_texts := A_refused_texts, a_refused_search := A_refused_search, a_is_behind := A_is_behind, a_first_behind := A_first_behind, a_search_of := A_search_of, a_told_filling := A_told_filling, a_next_of := fa, a_Light_init := A_Light_init, a_Slot_init := A_Slot_init, a_Search_init := A_Search_init, a_Search_following := A_Search_following, a_Search_step_back := A_Search_step_back, a_Search_try_word := A_Search_try_word, c_Light := C_Light, c_Slot := C_Slot, c_TooFewTrials := C_TooFewTrials, c_Search := C_Search, d_is_letter := (PySem.W.fnOf "is_letter" "is_letter" (defArgs s_is_letter) (defBody s_is_letter) (defScope s_is_letter) .none kV_is_letter dc_is_letter pm_is_letter an_is_letter cd_is_letter ct_is_letter), d_is_cell := (PySem.W.fnOf "is_cell" "is_cell" (defArgs s_is_cell) (defBody s_is_cell) (defScope s_is_cell) .none kV_is_cell dc_is_cell pm_is_cell an_is_cell cd_is_cell ct_is_cell), d_may_follow_texts := (PySem.W.fnOf "may_follow" "may_follow" (defArgs s_may_follow_texts) (defBody s_may_follow_texts) (defScope s_may_follow_texts) .none kV_may_follow_texts dc_may_follow_texts pm_may_follow_texts an_may_follow_texts cd_may_follow_texts ct_may_follow_texts), d_first_fault := (PySem.W.fnOf "first_fault" "first_fault" (defArgs s_first_fault) (defBody s_first_fault) (defScope s_first_fault) .none kV_first_fault dc_first_fault pm_first_fault an_first_fault cd_first_fault ct_first_fault), d_lines_of := (PySem.W.fnOf "lines_of" "lines_of" (defArgs s_lines_of) (defBody s_lines_of) (defScope s_lines_of) .none kV_lines_of dc_lines_of pm_lines_of an_lines_of cd_lines_of ct_lines_of), d_cells_of := (PySem.W.fnOf "cells_of" "cells_of" (defArgs s_cells_of) (defBody s_cells_of) (defScope s_cells_of) .none kV_cells_of dc_cells_of pm_cells_of an_cells_of cd_cells_of ct_cells_of), d_is_white := (PySem.W.fnOf "is_white" "is_white" (defArgs s_is_white) (defBody s_is_white) (defScope s_is_white) .none kV_is_white dc_is_white pm_is_white an_is_white cd_is_white ct_is_white), d_moved := (PySem.W.fnOf "moved" "moved" (defArgs s_moved) (defBody s_moved) (defScope s_moved) .none kV_moved dc_moved pm_moved an_moved cd_moved ct_moved), d_begins_light := (PySem.W.fnOf "begins_light" "begins_light" (defArgs s_begins_light) (defBody s_begins_light) (defScope s_begins_light) .none kV_begins_light dc_begins_light pm_begins_light an_begins_light cd_begins_light ct_begins_light), d_white_run := (PySem.W.fnOf "white_run" "white_run" (defArgs s_white_run) (defBody s_white_run) (defScope s_white_run) .none kV_white_run dc_white_run pm_white_run an_white_run cd_white_run ct_white_run), d_lights_of := (PySem.W.fnOf "lights_of" "lights_of" (defArgs s_lights_of) (defBody s_lights_of) (defScope s_lights_of) .none kV_lights_of dc_lights_of pm_lights_of an_lights_of cd_lights_of ct_lights_of), d_crossing := (PySem.W.fnOf "crossing" "crossing" (defArgs s_crossing) (defBody s_crossing) (defScope s_crossing) .none kV_crossing dc_crossing pm_crossing an_crossing cd_crossing ct_crossing), d_locked_letters := (PySem.W.fnOf "locked_letters" "locked_letters" (defArgs s_locked_letters) (defBody s_locked_letters) (defScope s_locked_letters) .none kV_locked_letters dc_locked_letters pm_locked_letters an_locked_letters cd_locked_letters ct_locked_letters), d_earlier_crossings := (PySem.W.fnOf "earlier_crossings" "earlier_crossings" (defArgs s_earlier_crossings) (defBody s_earlier_crossings) (defScope s_earlier_crossings) .none kV_earlier_crossings dc_earlier_crossings pm_earlier_crossings an_earlier_crossings cd_earlier_crossings ct_earlier_crossings), d_slots_of := (PySem.W.fnOf "slots_of" "slots_of" (defArgs s_slots_of) (defBody s_slots_of) (defScope s_slots_of) .none kV_slots_of dc_slots_of pm_slots_of an_slots_of cd_slots_of ct_slots_of), d_stands_by_itself := (PySem.W.fnOf "stands_by_itself" "stands_by_itself" (defArgs s_stands_by_itself) (defBody s_stands_by_itself) (defScope s_stands_by_itself) .none kV_stands_by_itself dc_stands_by_itself pm_stands_by_itself an_stands_by_itself cd_stands_by_itself ct_stands_by_itself), d_agrees_with_earlier := (PySem.W.fnOf "agrees_with_earlier" "agrees_with_earlier" (defArgs s_agrees_with_earlier) (defBody s_agrees_with_earlier) (defScope s_agrees_with_earlier) .none kV_agrees_with_earlier dc_agrees_with_earlier pm_agrees_with_earlier an_agrees_with_earlier cd_agrees_with_earlier ct_agrees_with_earlier), d_wrong_with := (PySem.W.fnOf "wrong_with" "wrong_with" (defArgs s_wrong_with) (defBody s_wrong_with) (defScope s_wrong_with) .none kV_wrong_with dc_wrong_with pm_wrong_with an_wrong_with cd_wrong_with ct_wrong_with), d_may_follow_wordlists := (PySem.W.fnOf "may_follow" "may_follow" (defArgs s_may_follow_wordlists) (defBody s_may_follow_wordlists) (defScope s_may_follow_wordlists) .none kV_may_follow_wordlists dc_may_follow_wordlists pm_may_follow_wordlists an_may_follow_wordlists cd_may_follow_wordlists ct_may_follow_wordlists), d_first_fault_of_words := (PySem.W.fnOf "first_fault_of_words" "first_fault_of_words" (defArgs s_first_fault_of_words) (defBody s_first_fault_of_words) (defScope s_first_fault_of_words) .none kV_first_fault_of_words dc_first_fault_of_words pm_first_fault_of_words an_first_fault_of_words cd_first_fault_of_words ct_first_fault_of_words), d_refused_lattice := (PySem.W.fnOf "refused_lattice" "refused_lattice" (defArgs s_refused_lattice) (defBody s_refused_lattice) (defScope s_refused_lattice) .none kV_refused_lattice dc_refused_lattice pm_refused_lattice an_refused_lattice cd_refused_lattice ct_refused_lattice), d_refused_words := (PySem.W.fnOf "refused_words" "refused_words" (defArgs s_refused_words) (defBody s_refused_words) (defScope s_refused_words) .none kV_refused_words dc_refused_words pm_refused_words an_refused_words cd_refused_words ct_refused_words), d_refused_texts := (PySem.W.fnOf "refused_texts" "refused_texts" (defArgs s_refused_texts) (defBody s_refused_texts) (defScope s_refused_texts) .none kV_refused_texts dc_refused_texts pm_refused_texts an_refused_texts cd_refused_texts ct_refused_texts), d_refused_search := (PySem.W.fnOf "refused_search" "refused_search" (defArgs s_refused_search) (defBody s_refused_search) (defScope s_refused_search) .none kV_refused_search dc_refused_search pm_refused_search an_refused_search cd_refused_search ct_refused_search), d_is_behind := (PySem.W.fnOf "is_behind" "is_behind" (defArgs s_is_behind) (defBody s_is_behind) (defScope s_is_behind) .none kV_is_behind dc_is_behind pm_is_behind an_is_behind cd_is_behind ct_is_behind), d_first_behind := (PySem.W.fnOf "first_behind" "first_behind" (defArgs s_first_behind) (defBody s_first_behind) (defScope s_first_behind) .none kV_first_behind dc_first_behind pm_first_behind an_first_behind cd_first_behind ct_first_behind), d_search_of := (PySem.W.fnOf "search_of" "search_of" (defArgs s_search_of) (defBody s_search_of) (defScope s_search_of) .none kV_search_of dc_search_of pm_search_of an_search_of cd_search_of ct_search_of), d_told_filling := (PySem.W.fnOf "told_filling" "told_filling" (defArgs s_told_filling) (defBody s_told_filling) (defScope s_told_filling) .none kV_told_filling dc_told_filling pm_told_filling an_told_filling cd_told_filling ct_told_filling), d_next_of := (PySem.W.fnOf "next_of" "next_of" (defArgs s_next_of) (defBody s_next_of) (defScope s_next_of) .none kV_next_of dc_next_of pm_next_of an_next_of cd_next_of ct_next_of), d_Light_init := (PySem.W.fnOf "__init__" "Light.__init__" (defArgs s_Light_init) (defBody s_Light_init) (defScope s_Light_init) .none kV_Light_init dc_Light_init pm_Light_init an_Light_init cd_Light_init ct_Light_init), d_Slot_init := (PySem.W.fnOf "__init__" "Slot.__init__" (defArgs s_Slot_init) (defBody s_Slot_init) (defScope s_Slot_init) .none kV_Slot_init dc_Slot_init pm_Slot_init an_Slot_init cd_Slot_init ct_Slot_init), d_Search_init := (PySem.W.fnOf "__init__" "Search.__init__" (defArgs s_Search_init) (defBody s_Search_init) (defScope s_Search_init) .none kV_Search_init dc_Search_init pm_Search_init an_Search_init cd_Search_init ct_Search_init), d_Search_following := (PySem.W.fnOf "following" "Search.following" (defArgs s_Search_following) (defBody s_Search_following) (defScope s_Search_following) .none kV_Search_following dc_Search_following pm_Search_following an_Search_following cd_Search_following ct_Search_following), d_Search_step_back := (PySem.W.fnOf "step_back" "Search.step_back" (defArgs s_Search_step_back) (defBody s_Search_step_back) (defScope s_Search_step_back) .none kV_Search_step_back dc_Search_step_back pm_Search_step_back an_Search_step_back cd_Search_step_back ct_Search_step_back), d_Search_try_word := (PySem.W.fnOf "try_word" "Search.try_word" (defArgs s_Search_try_word) (defBody s_Search_try_word) (defScope s_Search_try_word) .none kV_Search_try_word dc_Search_try_word pm_Search_try_word an_Search_try_word cd_Search_try_word ct_Search_try_word) } := {
    g_LINE_END := ⟨_, PySem.W.mg_of X G g_LINE_END⟩
    g_BLOCK := ⟨_, PySem.W.mg_of X G g_BLOCK⟩
    g_WHITE := ⟨_, PySem.W.mg_of X G g_WHITE⟩
    g_LETTER_A := ⟨_, PySem.W.mg_of X G g_LETTER_A⟩
    g_LETTER_Z := ⟨_, PySem.W.mg_of X G g_LETTER_Z⟩
    g_LEAST_SIDE := ⟨_, PySem.W.mg_of X G g_LEAST_SIDE⟩
    g_MOST_SIDE := ⟨_, PySem.W.mg_of X G g_MOST_SIDE⟩
    g_ACROSS := ⟨_, PySem.W.mg_of X G g_ACROSS⟩
    g_DOWN := ⟨_, PySem.W.mg_of X G g_DOWN⟩
    g_NOTHING_WRONG := ⟨_, PySem.W.mg_of X G g_NOTHING_WRONG⟩
    g_NO_SUCH_WORD := ⟨_, PySem.W.mg_of X G g_NO_SUCH_WORD⟩
    g_NOT_BY_ITSELF := ⟨_, PySem.W.mg_of X G g_NOT_BY_ITSELF⟩
    g_STANDS_BEFORE := ⟨_, PySem.W.mg_of X G g_STANDS_BEFORE⟩
    g_CROSSES_WRONGLY := ⟨_, PySem.W.mg_of X G g_CROSSES_WRONGLY⟩
    g_LEAST_LETTERS := ⟨_, PySem.W.mg_of X G g_LEAST_LETTERS⟩
    g_MOST_LETTERS := ⟨_, PySem.W.mg_of X G g_MOST_LETTERS⟩
    g_MOST_WORDS := ⟨_, PySem.W.mg_of X G g_MOST_WORDS⟩
    g_NO_LATTICE := ⟨_, PySem.W.mg_of X G g_NO_LATTICE⟩
    g_NO_WORDS := ⟨_, PySem.W.mg_of X G g_NO_WORDS⟩
    g_OUT_OF_RANGE := ⟨_, PySem.W.mg_of X G g_OUT_OF_RANGE⟩
    g_NO_SUCH := ⟨_, PySem.W.mg_of X G g_NO_SUCH⟩
    g_TOO_FEW := ⟨_, PySem.W.mg_of X G g_TOO_FEW⟩
    g_MOST_TRIALS := ⟨_, PySem.W.mg_of X G g_MOST_TRIALS⟩
    b_enumerate := PySem.W.mg_none_of X G z_enumerate
    b_len := PySem.W.mg_none_of X G z_len
    b_list := PySem.W.mg_none_of X G z_list
    b_range := PySem.W.mg_none_of X G z_range
    b_zip := PySem.W.mg_none_of X G z_zip
    m_is_letter := PySem.W.mg_of X G a_is_letter
    F_is_letter := F_is_letter
    bd_is_letter := bd_is_letter
    m_is_cell := PySem.W.mg_of X G a_is_cell
    F_is_cell := F_is_cell
    bd_is_cell := bd_is_cell
    m_may_follow_texts := PySem.W.mg_of X G a_may_follow_texts
    F_may_follow_texts := F_may_follow_texts
    bd_may_follow_texts := bd_may_follow_texts
    m_first_fault := PySem.W.mg_of X G a_first_fault
    F_first_fault := F_first_fault
    bd_first_fault := bd_first_fault
    m_lines_of := PySem.W.mg_of X G a_lines_of
    F_lines_of := F_lines_of
    bd_lines_of := bd_lines_of
    m_cells_of := PySem.W.mg_of X G a_cells_of
    F_cells_of := F_cells_of
    bd_cells_of := bd_cells_of
    m_is_white := PySem.W.mg_of X G a_is_white
    F_is_white := F_is_white
    bd_is_white := bd_is_white
    m_moved := PySem.W.mg_of X G a_moved
    F_moved := F_moved
    bd_moved := bd_moved
    m_begins_light := PySem.W.mg_of X G a_begins_light
    F_begins_light := F_begins_light
    bd_begins_light := bd_begins_light
    m_white_run := PySem.W.mg_of X G a_white_run
    F_white_run := F_white_run
    bd_white_run := bd_white_run
    m_lights_of := PySem.W.mg_of X G a_lights_of
    F_lights_of := F_lights_of
    bd_lights_of := bd_lights_of
    m_crossing := PySem.W.mg_of X G a_crossing
    F_crossing := F_crossing
    bd_crossing := bd_crossing
    m_locked_letters := PySem.W.mg_of X G a_locked_letters
    F_locked_letters := F_locked_letters
    bd_locked_letters := bd_locked_letters
    m_earlier_crossings := PySem.W.mg_of X G a_earlier_crossings
    F_earlier_crossings := F_earlier_crossings
    bd_earlier_crossings := bd_earlier_crossings
    m_slots_of := PySem.W.mg_of X G a_slots_of
    F_slots_of := F_slots_of
    bd_slots_of := bd_slots_of
    m_stands_by_itself := PySem.W.mg_of X G a_stands_by_itself
    F_stands_by_itself := F_stands_by_itself
    bd_stands_by_itself := bd_stands_by_itself
    m_agrees_with_earlier := PySem.W.mg_of X G a_agrees_with_earlier
    F_agrees_with_earlier := F_agrees_with_earlier
    bd_agrees_with_earlier := bd_agrees_with_earlier
    m_wrong_with := PySem.W.mg_of X G a_wrong_with
    F_wrong_with := F_wrong_with
    bd_wrong_with := bd_wrong_with
    m_may_follow_wordlists := PySem.W.mg_of X G a_may_follow_wordlists
    F_may_follow_wordlists := F_may_follow_wordlists
    bd_may_follow_wordlists := bd_may_follow_wordlists
    m_first_fault_of_words := PySem.W.mg_of X G a_first_fault_of_words
    F_first_fault_of_words := F_first_fault_of_words
    bd_first_fault_of_words := bd_first_fault_of_words
    m_refused_lattice := PySem.W.mg_of X G a_refused_lattice
    F_refused_lattice := F_refused_lattice
    bd_refused_lattice := bd_refused_lattice
    m_refused_words := PySem.W.mg_of X G a_refused_words
    F_refused_words := F_refused_words
    bd_refused_words := bd_refused_words
    m_refused_texts := PySem.W.mg_of X G a_refused_texts
    F_refused_texts := F_refused_texts
    bd_refused_texts := bd_refused_texts
    m_refused_search := PySem.W.mg_of X G a_refused_search
    F_refused_search := F_refused_search
    bd_refused_search := bd_refused_search
    m_is_behind := PySem.W.mg_of X G a_is_behind
    F_is_behind := F_is_behind
    bd_is_behind := bd_is_behind
    m_first_behind := PySem.W.mg_of X G a_first_behind
    F_first_behind := F_first_behind
    bd_first_behind := bd_first_behind
    m_search_of := PySem.W.mg_of X G a_search_of
    F_search_of := F_search_of
    bd_search_of := bd_search_of
    m_told_filling := PySem.W.mg_of X G a_told_filling
    F_told_filling := F_told_filling
    bd_told_filling := bd_told_filling
    m_next_of := PySem.W.mg_of X G a_next_of
    F_next_of := F_next_of
    bd_next_of := bd_next_of
    F_Light_init := F_Light_init
    bd_Light_init := bd_Light_init
    F_Slot_init := F_Slot_init
    bd_Slot_init := bd_Slot_init
    F_Search_init := F_Search_init
    bd_Search_init := bd_Search_init
    F_Search_following := F_Search_following
    bd_Search_following := bd_Search_following
    F_Search_step_back := F_Search_step_back
    bd_Search_step_back := bd_Search_step_back
    F_Search_try_word := F_Search_try_word
    bd_Search_try_word := bd_Search_try_word
    me_Search_following := ⟨a_Search_following, i_Search_following, k_Search_following⟩
    me_Search_step_back := ⟨a_Search_step_back, i_Search_step_back, k_Search_step_back⟩
    me_Search_try_word := ⟨a_Search_try_word, i_Search_try_word, k_Search_try_word⟩
    m_Light := PySem.W.mg_of X G m_Light
    cl_Light := ⟨pg_Light, hd_Light, po_Light, sa_Light⟩
    mk_Light := ⟨mk_Light, a_Light_init, i_Light_init, kc_Light⟩
    n_Light_number := n_Light_number
    n_Light_way := n_Light_way
    n_Light_cells := n_Light_cells
    m_Slot := PySem.W.mg_of X G m_Slot
    cl_Slot := ⟨pg_Slot, hd_Slot, po_Slot, sa_Slot⟩
    mk_Slot := ⟨mk_Slot, a_Slot_init, i_Slot_init, kc_Slot⟩
    n_Slot_cells := n_Slot_cells
    n_Slot_locked := n_Slot_locked
    n_Slot_crossings := n_Slot_crossings
    m_TooFewTrials := PySem.W.mg_of X G m_TooFewTrials
    x_TooFewTrials := x_TooFewTrials
    m_Search := PySem.W.mg_of X G m_Search
    cl_Search := ⟨pg_Search, hd_Search, po_Search, sa_Search⟩
    mk_Search := ⟨mk_Search, a_Search_init, i_Search_init, kc_Search⟩
    n_Search_slots := n_Search_slots
    n_Search_words := n_Search_words
    n_Search_trials := n_Search_trials
    n_Search_standing := n_Search_standing
    n_Search_number := n_Search_number
    n_Search_begun := n_Search_begun
  }
  exact ⟨(PySem.W.fnOf "next_of" "next_of" (defArgs s_next_of) (defBody s_next_of) (defScope s_next_of) .none kV_next_of dc_next_of pm_next_of an_next_of cd_next_of ct_next_of), fun s us hu => by obtain ⟨_, _, _, _, rfl⟩ := un4 hu; exact .of_eq rfl, fun base _ _ => ok_next_of T⟩
end S
open PySem PySem.W PyProof.Rows
set_option maxRecDepth 100000 in
set_option maxHeartbeats 0 in
theorem PySem.Challenge.cw_crossfilldesk_s07_next_of_holds : PySem.Challenge.rw_crossfilldesk_s07_next_of.Holds := by
  w_on; k_headS; (case hw => exact ⟨[.int 0, .list [], .list [], .list []], by decide +kernel, by decide +kernel⟩)
  k_fillS
  refine L2.walk_specK (r := PySem.Challenge.rw_crossfilldesk_s07_next_of) (k := 9) (CX := L2.CX0) (ps := ["n", "t", "w", "a"]) (sp := S.sp_next_of) (by decide +kernel) rfl rfl ⟨rfl, by decide, by decide⟩ (fun w h Y => PySem.W.kIn_of Y) ?F ?S (fun _ _ _ _ z => z)
  case F =>
    intro w mg fa h Y KX G hmg
    refine' S.all_mk KX G hmg ?m_Light ?m_Slot ?m_TooFewTrials ?x_TooFewTrials ?m_Search ?a_is_letter ?l_is_letter ?c_is_letter ?k_is_letter ?a_is_cell ?l_is_cell ?c_is_cell ?k_is_cell ?a_may_follow_texts ?l_may_follow_texts ?c_may_follow_texts ?k_may_follow_texts ?a_first_fault ?l_first_fault ?c_first_fault ?k_first_fault ?a_lines_of ?l_lines_of ?c_lines_of ?k_lines_of ?a_cells_of ?l_cells_of ?c_cells_of ?k_cells_of ?a_is_white ?l_is_white ?c_is_white ?k_is_white ?a_moved ?l_moved ?c_moved ?k_moved ?a_begins_light ?l_begins_light ?c_begins_light ?k_begins_light ?a_white_run ?l_white_run ?c_white_run ?k_white_run ?a_lights_of ?l_lights_of ?c_lights_of ?k_lights_of ?a_crossing ?l_crossing ?c_crossing ?k_crossing ?a_locked_letters ?l_locked_letters ?c_locked_letters ?k_locked_letters ?a_earlier_crossings ?l_earlier_crossings ?c_earlier_crossings ?k_earlier_crossings ?a_slots_of ?l_slots_of ?c_slots_of ?k_slots_of ?a_stands_by_itself ?l_stands_by_itself ?c_stands_by_itself ?k_stands_by_itself ?a_agrees_with_earlier ?l_agrees_with_earlier ?c_agrees_with_earlier ?k_agrees_with_earlier ?a_wrong_with ?l_wrong_with ?c_wrong_with ?k_wrong_with ?a_may_follow_wordlists ?l_may_follow_wordlists ?c_may_follow_wordlists ?k_may_follow_wordlists ?a_first_fault_of_words ?l_first_fault_of_words ?c_first_fault_of_words ?k_first_fault_of_words ?a_refused_lattice ?l_refused_lattice ?c_refused_lattice ?k_refused_lattice ?a_refused_words ?l_refused_words ?c_refused_words ?k_refused_words ?a_refused_texts ?l_refused_texts ?c_refused_texts ?k_refused_texts ?a_refused_search ?l_refused_search ?c_refused_search ?k_refused_search ?a_is_behind ?l_is_behind ?c_is_behind ?k_is_behind ?a_first_behind ?l_first_behind ?c_first_behind ?k_first_behind ?a_search_of ?l_search_of ?c_search_of ?k_search_of ?a_told_filling ?l_told_filling ?c_told_filling ?k_told_filling ?a_next_of ?l_next_of ?c_next_of ?k_next_of ?a_Light_init ?i_Light_init ?l_Light_init ?c_Light_init ?k_Light_init ?a_Slot_init ?i_Slot_init ?l_Slot_init ?c_Slot_init ?k_Slot_init ?a_Search_init ?i_Search_init ?l_Search_init ?c_Search_init ?k_Search_init ?a_Search_following ?i_Search_following ?l_Search_following ?c_Search_following ?k_Search_following ?a_Search_step_back ?i_Search_step_back ?l_Search_step_back ?c_Search_step_back ?k_Search_step_back ?a_Search_try_word ?i_Search_try_word ?l_Search_try_word ?c_Search_try_word ?k_Search_try_word ?pg_Light ?hd_Light ?po_Light ?sa_Light ?mk_Light ?kc_Light ?n_Light_number ?n_Light_way ?n_Light_cells ?pg_Slot ?hd_Slot ?po_Slot ?sa_Slot ?mk_Slot ?kc_Slot ?n_Slot_cells ?n_Slot_locked ?n_Slot_crossings ?pg_Search ?hd_Search ?po_Search ?sa_Search ?mk_Search ?kc_Search ?n_Search_slots ?n_Search_words ?n_Search_trials ?n_Search_standing ?n_Search_number ?n_Search_begun ?z_enumerate ?z_len ?z_list ?z_range ?z_zip ?g_LINE_END ?g_BLOCK ?g_WHITE ?g_LETTER_A ?g_LETTER_Z ?g_LEAST_SIDE ?g_MOST_SIDE ?g_ACROSS ?g_DOWN ?g_NOTHING_WRONG ?g_NO_SUCH_WORD ?g_NOT_BY_ITSELF ?g_STANDS_BEFORE ?g_CROSSES_WRONGLY ?g_LEAST_LETTERS ?g_MOST_LETTERS ?g_MOST_WORDS ?g_NO_LATTICE ?g_NO_WORDS ?g_OUT_OF_RANGE ?g_NO_SUCH ?g_TOO_FEW ?g_MOST_TRIALS
    (case m_Light => k_is)
    (case m_Slot => k_is)
    (case m_TooFewTrials => k_is)
    (case x_TooFewTrials => (show PySem.W.excIn _ _ [.type "Exception", .type "BaseException", .type "object"] "Exception.__new__" = true; k_exc))
    (case m_Search => k_is)
    (case a_is_letter => k_is)
    (case l_is_letter => k_is)
    (case c_is_letter => k_is)
    (case k_is_letter => k_is)
    (case a_is_cell => k_is)
    (case l_is_cell => k_is)
    (case c_is_cell => k_is)
    (case k_is_cell => k_is)
    (case a_may_follow_texts => k_is)
    (case l_may_follow_texts => k_is)
    (case c_may_follow_texts => k_is)
    (case k_may_follow_texts => k_is)
    (case a_first_fault => k_is)
    (case l_first_fault => k_is)
    (case c_first_fault => k_is)
    (case k_first_fault => k_is)
    (case a_lines_of => k_is)
    (case l_lines_of => k_is)
    (case c_lines_of => k_is)
    (case k_lines_of => k_is)
    (case a_cells_of => k_is)
    (case l_cells_of => k_is)
    (case c_cells_of => k_is)
    (case k_cells_of => k_is)
    (case a_is_white => k_is)
    (case l_is_white => k_is)
    (case c_is_white => k_is)
    (case k_is_white => k_is)
    (case a_moved => k_is)
    (case l_moved => k_is)
    (case c_moved => k_is)
    (case k_moved => k_is)
    (case a_begins_light => k_is)
    (case l_begins_light => k_is)
    (case c_begins_light => k_is)
    (case k_begins_light => k_is)
    (case a_white_run => k_is)
    (case l_white_run => k_is)
    (case c_white_run => k_is)
    (case k_white_run => k_is)
    (case a_lights_of => k_is)
    (case l_lights_of => k_is)
    (case c_lights_of => k_is)
    (case k_lights_of => k_is)
    (case a_crossing => k_is)
    (case l_crossing => k_is)
    (case c_crossing => k_is)
    (case k_crossing => k_is)
    (case a_locked_letters => k_is)
    (case l_locked_letters => k_is)
    (case c_locked_letters => k_is)
    (case k_locked_letters => k_is)
    (case a_earlier_crossings => k_is)
    (case l_earlier_crossings => k_is)
    (case c_earlier_crossings => k_is)
    (case k_earlier_crossings => k_is)
    (case a_slots_of => k_is)
    (case l_slots_of => k_is)
    (case c_slots_of => k_is)
    (case k_slots_of => k_is)
    (case a_stands_by_itself => k_is)
    (case l_stands_by_itself => k_is)
    (case c_stands_by_itself => k_is)
    (case k_stands_by_itself => k_is)
    (case a_agrees_with_earlier => k_is)
    (case l_agrees_with_earlier => k_is)
    (case c_agrees_with_earlier => k_is)
    (case k_agrees_with_earlier => k_is)
    (case a_wrong_with => k_is)
    (case l_wrong_with => k_is)
    (case c_wrong_with => k_is)
    (case k_wrong_with => k_is)
    (case a_may_follow_wordlists => k_is)
    (case l_may_follow_wordlists => k_is)
    (case c_may_follow_wordlists => k_is)
    (case k_may_follow_wordlists => k_is)
    (case a_first_fault_of_words => k_is)
    (case l_first_fault_of_words => k_is)
    (case c_first_fault_of_words => k_is)
    (case k_first_fault_of_words => k_is)
    (case a_refused_lattice => k_is)
    (case l_refused_lattice => k_is)
    (case c_refused_lattice => k_is)
    (case k_refused_lattice => k_is)
    (case a_refused_words => k_is)
    (case l_refused_words => k_is)
    (case c_refused_words => k_is)
    (case k_refused_words => k_is)
    (case a_refused_texts => k_is)
    (case l_refused_texts => k_is)
    (case c_refused_texts => k_is)
    (case k_refused_texts => k_is)
    (case a_refused_search => k_is)
    (case l_refused_search => k_is)
    (case c_refused_search => k_is)
    (case k_refused_search => k_is)
    (case a_is_behind => k_is)
    (case l_is_behind => k_is)
    (case c_is_behind => k_is)
    (case k_is_behind => k_is)
    (case a_first_behind => k_is)
    (case l_first_behind => k_is)
    (case c_first_behind => k_is)
    (case k_first_behind => k_is)
    (case a_search_of => k_is)
    (case l_search_of => k_is)
    (case c_search_of => k_is)
    (case k_search_of => k_is)
    (case a_told_filling => k_is)
    (case l_told_filling => k_is)
    (case c_told_filling => k_is)
    (case k_told_filling => k_is)
    (case a_next_of => k_is)
    (case l_next_of => k_is)
    (case c_next_of => k_is)
    (case k_next_of => k_is)
    (case a_Light_init => k_is)
    (case i_Light_init => k_is)
    (case l_Light_init => k_is)
    (case c_Light_init => k_is)
    (case k_Light_init => k_is)
    (case a_Slot_init => k_is)
    (case i_Slot_init => k_is)
    (case l_Slot_init => k_is)
    (case c_Slot_init => k_is)
    (case k_Slot_init => k_is)
    (case a_Search_init => k_is)
    (case i_Search_init => k_is)
    (case l_Search_init => k_is)
    (case c_Search_init => k_is)
    (case k_Search_init => k_is)
    (case a_Search_following => k_is)
    (case i_Search_following => k_is)
    (case l_Search_following => k_is)
    (case c_Search_following => k_is)
    (case k_Search_following => k_is)
    (case a_Search_step_back => k_is)
    (case i_Search_step_back => k_is)
    (case l_Search_step_back => k_is)
    (case c_Search_step_back => k_is)
    (case k_Search_step_back => k_is)
    (case a_Search_try_word => k_is)
    (case i_Search_try_word => k_is)
    (case l_Search_try_word => k_is)
    (case c_Search_try_word => k_is)
    (case k_Search_try_word => k_is)
    (case pg_Light => k_is)
    (case hd_Light => k_is)
    (case po_Light => k_is)
    (case sa_Light => k_is)
    (case mk_Light => k_is)
    (case kc_Light => k_is)
    (case n_Light_number => k_is)
    (case n_Light_way => k_is)
    (case n_Light_cells => k_is)
    (case pg_Slot => k_is)
    (case hd_Slot => k_is)
    (case po_Slot => k_is)
    (case sa_Slot => k_is)
    (case mk_Slot => k_is)
    (case kc_Slot => k_is)
    (case n_Slot_cells => k_is)
    (case n_Slot_locked => k_is)
    (case n_Slot_crossings => k_is)
    (case pg_Search => k_is)
    (case hd_Search => k_is)
    (case po_Search => k_is)
    (case sa_Search => k_is)
    (case mk_Search => k_is)
    (case kc_Search => k_is)
    (case n_Search_slots => k_is)
    (case n_Search_words => k_is)
    (case n_Search_trials => k_is)
    (case n_Search_standing => k_is)
    (case n_Search_number => k_is)
    (case n_Search_begun => k_is)
    (case z_enumerate => k_is)
    (case z_len => k_is)
    (case z_list => k_is)
    (case z_range => k_is)
    (case z_zip => k_is)
    (case g_LINE_END => k_is)
    (case g_BLOCK => k_is)
    (case g_WHITE => k_is)
    (case g_LETTER_A => k_is)
    (case g_LETTER_Z => k_is)
    (case g_LEAST_SIDE => k_is)
    (case g_MOST_SIDE => k_is)
    (case g_ACROSS => k_is)
    (case g_DOWN => k_is)
    (case g_NOTHING_WRONG => k_is)
    (case g_NO_SUCH_WORD => k_is)
    (case g_NOT_BY_ITSELF => k_is)
    (case g_STANDS_BEFORE => k_is)
    (case g_CROSSES_WRONGLY => k_is)
    (case g_LEAST_LETTERS => k_is)
    (case g_MOST_LETTERS => k_is)
    (case g_MOST_WORDS => k_is)
    (case g_NO_LATTICE => k_is)
    (case g_NO_WORDS => k_is)
    (case g_OUT_OF_RANGE => k_is)
    (case g_NO_SUCH => k_is)
    (case g_TOO_FEW => k_is)
    (case g_MOST_TRIALS => k_is)
  case S =>
    intro K H xs a hO hwi hask hx
    cases hx with
    | cons h1 h2 =>
    cases h2 with
    | cons h2 h3 =>
    cases h3 with
    | cons h3 h4 =>
    cases h4 with
    | cons h4 h5 =>
      cases h5
      cases h1
      cases h2 with
      | lst hs2 ha2 =>
      cases h3 with
      | lst hs3 ha3 =>
      cases h4 with
      | lst hs4 ha4 =>
        have e2 := L2.ints_dw a.2.1 _ ha2
        have e3 := L2.ints_dw a.2.2.1 _ ha3
        have e4 := L2.ints_dw a.2.2.2.1 _ ha4
        subst e2 e3 e4
        have q : (Codec.inInt 0 4294967295 a.1 && ((Codec.inLen 0 100 a.2.1 && a.2.1.all (Codec.inInt 0 255)) && ((Codec.inLen 0 2100 a.2.2.1 && a.2.2.1.all (Codec.inInt 0 255)) && ((Codec.inLen 0 200 a.2.2.2.1 && a.2.2.2.1.all (Codec.inInt 0 4294967295)) && true)))) = true := hwi
        simp only [Bool.and_eq_true] at q
        have hn := (Codec.inInt_iff.mp q.1).1
        have en : ((a.1.toNat : Nat) : Int) = a.1 := Int.toNat_of_nonneg hn
        refine ⟨a.1.toNat, _, _, _, a.2.1, a.2.2.1, a.2.2.2.1, by rw [en], hs2, (Codec.inNat_iff.mp q.2.1.1).2, L2.bytes_in q.2.1.2, hs3, (Codec.inNat_iff.mp q.2.2.1.1).2, L2.bytes_in q.2.2.1.2, hs4, fun x hx => (Codec.inInt_iff.mp (List.all_eq_true.mp q.2.2.2.1.2 x hx)).1, fun H' p hp => ?_⟩
        rw [en] at hp
        exact .lst (L2.SqL.of hp) (L2.dw_ints _)
#print axioms PySem.Challenge.cw_crossfilldesk_s07_next_of_holds
