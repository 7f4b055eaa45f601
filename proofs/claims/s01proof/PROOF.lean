import PyProof.Rows.All
import Wide.All
import OpenK.AllK
import Wide.FinOn
import PyProof.EqAt
import PyProof.EqKinds
import PyProof.TupleCall
import KE.BitLaws
import Open.SpecLaws
import KE.OsHead
import KE.OsGo
import KE.KTryMore
import PySem.Challenge.RW_pipenet_s01_answers
section
set_option Elab.async false
set_option linter.all false
set_option maxRecDepth 100000
/-! THE HAND LAYER, for ints, bools, texts, own classes, lists, tuples, dicts, comprehensions, walks over dicts, enumerate, zip, reversed, texts, calls, loops. Paste it whole ahead of your own text; what your proof does not reach may be deleted. -/
namespace L2
open PySem PySem.Spec PyProof.Rows
/-- a key: an int or a str -/
abbrev Key := Sum Int Str
def keyIs : Key → Value → Bool
  | .inl k, v => Value.isInt k v
  | .inr x, v => Value.isStrOf x v
def keyH (w : World) : Key → Int
  | .inl k => hashInt k
  | .inr x => hashStr w x
theorem keyIs_shape : ∀ {k : Key} {v : Value}, keyIs k v = true → (∃ i t, k = Sum.inl i ∧ v = Value.int i t) ∨ (∃ x t, k = Sum.inr x ∧ v = Value.str x t)
  | .inl i, v, h => by
    obtain ⟨t, e⟩ := Value.isInt_shape (k := i) (v := v) h
    exact .inl ⟨i, t, rfl, e⟩
  | .inr x, v, h => by
    obtain ⟨t, e⟩ := Value.isStrOf_shape (x := x) (v := v) h
    exact .inr ⟨x, t, rfl, e⟩
theorem key_ll (a b : Int) : decide ((Sum.inl a : Key) = Sum.inl b) = (a == b) := by
  by_cases e : a = b
  · subst e; simp
  · have h : ¬ (Sum.inl a : Key) = Sum.inl b := fun q => e (Sum.inl.inj q)
    rw [decide_eq_false h]
    exact (beq_eq_false_iff_ne.mpr e).symm
theorem key_rr (a b : Str) : decide ((Sum.inr a : Key) = Sum.inr b) = decide (a = b) := by
  by_cases e : a = b
  · subst e; simp
  · have h : ¬ (Sum.inr a : Key) = Sum.inr b := fun q => e (Sum.inr.inj q)
    rw [decide_eq_false h, decide_eq_false e]
theorem key_lr (a : Int) (b : Str) : decide ((Sum.inl a : Key) = Sum.inr b) = false := decide_eq_false (fun q => nomatch q)
theorem key_rl (a : Str) (b : Int) : decide ((Sum.inr a : Key) = Sum.inl b) = false := decide_eq_false (fun q => nomatch q)
def mixKind (prog : Program) (w : World) : PySem.KeyKind prog w Key where
  is := keyIs
  hash := keyH w
  inj := fun v a b ha hb => by
    rcases keyIs_shape ha with ⟨i, t, rfl, rfl⟩ | ⟨x, t, rfl, rfl⟩
    · rcases keyIs_shape hb with ⟨j, u, rfl, e⟩ | ⟨y, u, rfl, e⟩
      · injection e with e1 _; rw [e1]
      · exact nomatch e
    · rcases keyIs_shape hb with ⟨j, u, rfl, e⟩ | ⟨y, u, rfl, e⟩
      · exact nomatch e
      · injection e with e1 _; rw [e1]
  byValue := fun k v h => by
    rcases keyIs_shape h with ⟨i, t, rfl, rfl⟩ | ⟨x, t, rfl, rfl⟩ <;> rfl
  pyHash := fun hv h => by
    rcases keyIs_shape hv with ⟨i, t, rfl, rfl⟩ | ⟨x, t, rfl, rfl⟩
    · exact wpAny_pyHash_int h
    · exact wpAny_pyHash_str h
  eqBool := fun hu hv h => by
    rcases keyIs_shape hu with ⟨i, t, rfl, rfl⟩ | ⟨x, t, rfl, rfl⟩
    · rcases keyIs_shape hv with ⟨j, u, rfl, rfl⟩ | ⟨y, u, rfl, rfl⟩
      · rw [key_ll] at h; exact wpAny_eqBool_int h
      · rw [key_lr] at h; exact SeqAt.EqAt.int_str i t y u _ _ _ _ h
    · rcases keyIs_shape hv with ⟨j, u, rfl, rfl⟩ | ⟨y, u, rfl, rfl⟩
      · rw [key_rl] at h; exact SeqAt.EqAt.str_int x t j u _ _ _ _ h
      · rw [key_rr] at h; exact wpAny_eqBool_str h
  «strs» := fun k x t v h => by
    rcases keyIs_shape h with ⟨i, u, rfl, e⟩ | ⟨y, u, rfl, e⟩
    · exact nomatch e
    · injection e with e1 _
      subst e1
      cases v <;> rfl
end L2
namespace L2
open PySem PySem.Spec PyProof.Rows
/-- a value, without the heap -/
inductive V where
  | non | bl (b : Bool) | int (i : Int) | str (x : Str) | byt (b : Array UInt8) | flt (b : UInt64) | ref (a : Addr) | ty (n : String)
  deriving DecidableEq
def RelV : V → Value → Prop
  | .non, u => u = Value.none
  | .bl b, u => u = Value.bool b
  | .int i, u => ∃ t, u = Value.int i t
  | .str x, u => ∃ t, u = Value.str x t
  | .byt b, u => ∃ t, u = Value.bytes b t
  | .flt b, u => ∃ t, u = Value.float b t
  | .ref a, u => u = Value.ref a
  | .ty n, u => u = Value.type n
abbrev Vals : List V → List Value → Prop := Paired RelV
theorem Vals.length {xs : List V} {us : List Value} (r : Vals xs us) : xs.length = us.length := Paired.length r
theorem Vals.get : ∀ {xs : List V} {us : List Value} {i : Nat} {x : V}, Vals xs us → xs[i]? = some x → ∃ u, us[i]? = some u ∧ RelV x u
  | _, _, _, _, .nil, e => by simp at e
  | _, _, 0, _, .cons r _, e => by simp at e; subst e; exact ⟨_, rfl, r⟩
  | _, _, i + 1, x, .cons _ t, e => by
    obtain ⟨u, h1, h2⟩ := Vals.get (i := i) (x := x) t (by simpa using e)
    exact ⟨u, by simpa using h1, h2⟩
theorem Vals.set {x : V} {u : Value} (r : RelV x u) : ∀ {xs : List V} {us : List Value} (i : Nat), Vals xs us → Vals (xs.set i x) (us.set i u)
  | _, _, _, .nil => .nil
  | _, _, 0, .cons _ t => .cons r t
  | _, _, i + 1, .cons q t => .cons q (Vals.set r i t)
theorem Vals.append : ∀ {xs ys : List V} {us ws : List Value}, Vals xs us → Vals ys ws → Vals (xs ++ ys) (us ++ ws)
  | _, _, _, _, .nil, s => s
  | _, _, _, _, .cons r t, s => .cons r (Vals.append t s)
theorem Vals.take : ∀ {xs : List V} {us : List Value} (n : Nat), Vals xs us → Vals (xs.take n) (us.take n)
  | _, _, 0, _ => .nil
  | _, _, _ + 1, .nil => .nil
  | _, _, n + 1, .cons r t => .cons r (Vals.take n t)
theorem Vals.drop : ∀ {xs : List V} {us : List Value} (n : Nat), Vals xs us → Vals (xs.drop n) (us.drop n)
  | _, _, 0, r => r
  | _, _, _ + 1, .nil => .nil
  | _, _, n + 1, .cons _ t => Vals.drop n t
def RelO : Option V → Option Value → Prop
  | some v, some u => RelV v u
  | none, none => True
  | _, _ => False
def KV {κ : Type} : List (κ × V) → List (κ × Value) → Prop := Paired fun (p : κ × V) (q : κ × Value) => p.1 = q.1 ∧ RelV p.2 q.2
/-- a key of a dict (00_mix): an int or a text -/
def kV : Key → V
  | .inl i => .int i
  | .inr x => .str x
/-- what stands at a tracked address -/
inductive HO where
  /-- a list -/
  | lst (xs : List V)
  /-- a tuple (never changes) -/
  | tup (xs : List V)
  /-- a dict whose keys are ints and texts; one whose keys are tuples of ints and texts (the empty one is both) -/
  | dK (kvs : List (Key × V)) | dT (kvs : List (List Key × V))
  /-- a set of ints: its members, its size -/
  | set (S : Int → Bool) (n : Nat)
  /-- an instance of the class at C, its dict at dx, its attributes -/
  | ins (C dx : Addr) (fs : List (Str × V))
  /-- the dict of the instance at x -/
  | own (x : Addr)
  /-- the dict of an exception -/
  | xd (fs : List (Str × V))
  /-- a bound method, f of x -/
  | met (f x : Addr)
  /-- a range object lo, lo + 1, .. below hi -/
  | rng (lo hi : Int)
  /-- a thing that is known to the object (the script; a dict while a loop walks it): read, never written while it is so -/
  | frz (o : Obj) (u : HO)
  /-- a code object's table -/
  | tbl (ps : Array Value)
  /-- any other thing, by what is true of its one object (a def of one's own: SetO a S n := HO.ext fun h => ..) -/
  | ext (φ : Heap → Prop)
abbrev Hp := Addr → Option HO
def upd (H : Hp) (a : Addr) (o : HO) : Hp := fun b => if b = a then some o else H b
theorem upd_same {H : Hp} {a : Addr} {o : HO} : upd H a o a = some o := by unfold upd; rw [if_pos rfl]
theorem upd_ne {H : Hp} {a b : Addr} {o : HO} (h : b ≠ a) : upd H a o b = H b := by unfold upd; rw [if_neg h]
/-- two objects of different content stand apart -/
theorem ne_of {H : Hp} {a b : Addr} {o u : HO} (h : H a = some o) (h' : H b = some u) (d : o ≠ u) : a ≠ b := by
  intro e; subst e; rw [h] at h'; exact d (Option.some.inj h')
theorem ne_of_none {H : Hp} {a b : Addr} {o : HO} (h : H a = some o) (h' : H b = none) : a ≠ b := by
  intro e; subst e; rw [h] at h'; cases h'
section
variable (P : Program) (w : World)
def ObjOk (H : Hp) (h : Heap) (a : Addr) : HO → Prop
  | .lst xs => xs.length ≤ sizeLine ∧ ∃ (its : List Value) (n : Nat), Vals xs its ∧ h.get? a = some { cls := .type "list", data := .seq its.toArray n }
  | .tup xs => xs.length ≤ sizeLine ∧ ∃ its : List Value, Vals xs its ∧ IsTup h a its.toArray
  | .dK kvs => kvs.length ≤ sizeLine ∧ (a == sysModules) = false ∧ ∃ vs, KV kvs vs ∧ h.DictOf (mixKind P w) a vs
  | .dT kvs => kvs.length ≤ sizeLine ∧ (a == sysModules) = false ∧ ∃ xs : List (List Key × Addr × Value),
      Paired (fun (p : List Key × V) (q : List Key × Addr × Value) => p.1 = q.1 ∧ H q.2.1 = some (.tup (p.1.map kV)) ∧ RelV p.2 q.2.2) kvs xs ∧
      ∃ o es ep, h.get? a = some o ∧ o.ExactDict ∧ o.data = .dict es ep ∧ es.toList = xs.map (entryOfKey (tupleKind (mixKind P w))) ∧ (xs.map (·.1)).Nodup
  | .set S n => h.SetOf (intKind P w) a S n
  | .ins C dx fs => H dx = some (.own a) ∧ fs.length ≤ 1000 ∧ dx ≠ a ∧ h.get? a = some (PySem.W.instObj C dx) ∧
      ∃ mA, h.Ns1 dx mA ∧ (∀ f, RelO (fs.lookup f) (mA f)) ∧ PySem.Within mA (fs.map (·.1))
  | .own _ => ∃ o, h.get? a = some o
  | .xd fs => ∃ mA, h.Ns1 a mA ∧ ∀ f, RelO (fs.lookup f) (mA f)
  | .rng lo hi => ∃ t u v, h.get? a = some { cls := .type "range", data := .fields #[.int lo t, .int hi u, .int 1 v] }
  | .frz o u => h.get? a = some o ∧ ObjOk H h a u
  | .tbl ps => h.get? a = some { cls := .none, data := .fields ps }
  | .met f x => h.get? a = some (PySem.W.methodObj (.ref f) (.ref x))
  | .ext φ => φ h ∧ (∃ o, h.get? a = some o) ∧ ∀ h1 h2 : Heap, φ h1 → (∀ o, h1.get? a = some o → h2.get? a = some o) → φ h2
/-- the abstract heap is held -/
def HOk (H : Hp) (h : Heap) : Prop := ∀ a o, H a = some o → ObjOk P w H h a o
end
section
variable {P : Program} {w : World} {H H' : Hp} {h h' : Heap} {a : Addr} {o : HO}
theorem ObjOk.lt (x : ObjOk P w H h a o) : a < h.objs.size := by
  cases o with
  | lst xs => obtain ⟨_, _, _, _, e⟩ := x; exact Heap.lt_size e
  | tup xs => obtain ⟨_, _, _, p⟩ := x; exact p.lt
  | dK kvs => obtain ⟨_, _, _, _, o, _, _, e, _⟩ := x; exact Heap.lt_size e
  | dT kvs => obtain ⟨_, _, _, _, o, _, _, e, _⟩ := x; exact Heap.lt_size e
  | set S n => obtain ⟨o, _, _, _, e, _⟩ := x; exact Heap.lt_size e
  | ins C dx fs => obtain ⟨_, _, _, e, _⟩ := x; exact Heap.lt_size e
  | own y => obtain ⟨_, e⟩ := x; exact Heap.lt_size e
  | xd fs => obtain ⟨_, ⟨_, _, _, e, _⟩, _⟩ := x; exact Heap.lt_size e
  | rng lo hi => obtain ⟨_, _, _, e⟩ := x; exact Heap.lt_size e
  | frz ob u => obtain ⟨e, _⟩ := x; exact Heap.lt_size e
  | tbl ps => exact Heap.lt_size (show h.get? a = some _ from x)
  | met f y => exact Heap.lt_size (show h.get? a = some _ from x)
  | ext φ => obtain ⟨_, ⟨_, e⟩, _⟩ := x; exact Heap.lt_size e
theorem Paired.mapP {α β : Type} {F G : α → β → Prop} : ∀ {l₁ : List α} {l₂ : List β}, Paired F l₁ l₂ → (∀ a b, F a b → G a b) → Paired G l₁ l₂
  | _, _, .nil, _ => .nil
  | _, _, .cons r t, f => .cons (f _ _ r) (Paired.mapP t f)
/-- what an object's description leans on: its own object, its own dict, the tuples -/
theorem ObjOk.stay (x : ObjOk P w H h a o) (k : ∀ b u, (b = a ∨ H b = some (.own a)) → h.get? b = some u → h'.get? b = some u)
    (ho : ∀ b, H b = some (.own a) → H' b = some (.own a)) (ht : ∀ b xs, H b = some (.tup xs) → H' b = some (.tup xs)) : ObjOk P w H' h' a o := by
  induction o with
  | lst xs => obtain ⟨z, its, n, r, e⟩ := x; exact ⟨z, its, n, r, k _ _ (.inl rfl) e⟩
  | tup xs => obtain ⟨z, its, r, ob, e, c⟩ := x; exact ⟨z, its, r, ob, k _ _ (.inl rfl) e, c⟩
  | dK kvs => obtain ⟨z, y, vs, r, ob, es, ep, e, c⟩ := x; exact ⟨z, y, vs, r, ob, es, ep, k _ _ (.inl rfl) e, c⟩
  | dT kvs =>
    obtain ⟨z, y, xs, r, ob, es, ep, e, c⟩ := x
    exact ⟨z, y, xs, Paired.mapP r fun p q z => ⟨z.1, ht _ _ z.2.1, z.2.2⟩, ob, es, ep, k _ _ (.inl rfl) e, c⟩
  | set S n => obtain ⟨ob, es, ep, t, e, c⟩ := x; exact ⟨ob, es, ep, t, k _ _ (.inl rfl) e, c⟩
  | ins C dx fs =>
    obtain ⟨d, z, ne, e, mA, ⟨od, es, ep, e2, c⟩, r⟩ := x
    exact ⟨ho _ d, z, ne, k _ _ (.inl rfl) e, mA, ⟨od, es, ep, k _ _ (.inr d) e2, c⟩, r⟩
  | own y => obtain ⟨ob, e⟩ := x; exact ⟨ob, k _ _ (.inl rfl) e⟩
  | xd fs => obtain ⟨mA, ⟨od, es, ep, e, c⟩, r⟩ := x; exact ⟨mA, ⟨od, es, ep, k _ _ (.inl rfl) e, c⟩, r⟩
  | rng lo hi => obtain ⟨t, u, v, e⟩ := x; exact ⟨t, u, v, k _ _ (.inl rfl) e⟩
  | frz ob u ih => obtain ⟨e, q⟩ := x; exact ⟨k _ _ (.inl rfl) e, ih q⟩
  | tbl ps =>
    have e : h.get? a = some { cls := .none, data := .fields ps } := x
    show h'.get? a = some { cls := .none, data := .fields ps }
    exact k a _ (.inl rfl) e
  | met f y =>
    have e : h.get? a = some (PySem.W.methodObj (.ref f) (.ref y)) := x
    show h'.get? a = some (PySem.W.methodObj (.ref f) (.ref y))
    exact k a _ (.inl rfl) e
  | ext φ => obtain ⟨p, ⟨o, e⟩, st⟩ := x; exact ⟨st _ _ p fun o q => k _ _ (.inl rfl) q, ⟨o, k _ _ (.inl rfl) e⟩, st⟩
theorem HOk.lt (x : HOk P w H h) (e : H a = some o) : a < h.objs.size := (x a o e).lt
theorem HOk.fresh (x : HOk P w H h) (e : h.objs.size ≤ a) : H a = none := by
  cases q : H a with
  | none => rfl
  | some u => exact absurd (Nat.lt_of_lt_of_le (x.lt q) e) (Nat.lt_irrefl _)
/-- every object of the heap is kept -/
theorem HOk.kept (x : HOk P w H h) (k : ∀ b u, h.get? b = some u → h'.get? b = some u) : HOk P w H h' := fun a o e =>
  (x a o e).stay (fun b u _ q => k b u q) (fun _ q => q) fun _ _ q => q
/-- a new object is laid and tracked -/
theorem HOk.laid (x : HOk P w H h) (k : ∀ b u, h.get? b = some u → h'.get? b = some u) (hp : h.objs.size ≤ a) (new : ObjOk P w (upd H a o) h' a o) : HOk P w (upd H a o) h' := fun b u e => by
  have hn := x.fresh hp
  by_cases hb : b = a
  · subst hb; rw [upd_same] at e; cases e; exact new
  · rw [upd_ne hb] at e
    exact (x b u e).stay (fun c v _ q => k c v q) (fun c q => by rw [upd_ne (ne_of_none q hn)]; exact q) fun c xs q => by rw [upd_ne (ne_of_none q hn)]; exact q
end
/-- what may be read as u: it is u, or a known u -/
def Rd (H : Hp) (a : Addr) (u : HO) : Prop := H a = some u ∨ ∃ o, H a = some (.frz o u)
theorem Rd.ok {P : Program} {w : World} {H : Hp} {h : Heap} {a : Addr} {u : HO} (r : Rd H a u) (x : HOk P w H h) : ObjOk P w H h a u := by
  rcases r with r | ⟨o, r⟩
  · exact x a u r
  · obtain ⟨_, q⟩ := x a _ r
    exact q
/-- what may be written -/
def Mut : Option HO → Prop
  | some (.lst _) => True
  | some (.dK _) => True
  | some (.dT _) => True
  | some (.set _ _) => True
  | some (.ins _ _ _) => True
  | some (.ext _) => True
  | _ => False
section
variable {P : Program} {w : World} {H : Hp} {h h' : Heap} {x e : Addr} {o' : HO}
/-- the object at e is changed: x itself, or the dict of the instance x -/
theorem HOk.write (ok : HOk P w H h) (mu : Mut (H x)) (he : e = x ∨ H e = some (.own x)) (k : ∀ b u, b ≠ e → h.get? b = some u → h'.get? b = some u) (heo : ∃ u, h'.get? e = some u)
    (new : ObjOk P w (upd H x o') h' x o') : HOk P w (upd H x o') h' := fun b u q => by
  have nown : ∀ c y, H c = some (.own y) → c ≠ x := fun c y r z => by subst z; rw [r] at mu; exact mu
  have ntup : ∀ c xs, H c = some (.tup xs) → c ≠ x := fun c xs r z => by subst z; rw [r] at mu; exact mu
  by_cases hb : b = x
  · subst hb; rw [upd_same] at q; cases q; exact new
  · rw [upd_ne hb] at q
    by_cases hbe : b = e
    · have q' : H b = some (.own x) := by
        rcases he with z | z
        · exact absurd (hbe.trans z) hb
        · rw [hbe]; exact z
      rw [q] at q'; cases q'
      obtain ⟨v, hv⟩ := heo
      exact ⟨v, by rw [hbe]; exact hv⟩
    · refine (ok b u q).stay (fun c v hc r => k c v ?_ r) (fun c r => by rw [upd_ne (nown c b r)]; exact r) fun c xs r => by rw [upd_ne (ntup c xs r)]; exact r
      rcases hc with rfl | hc
      · exact hbe
      · rintro rfl
        rcases he with z | z
        · exact nown c b hc z
        · rw [hc] at z; cases z; exact hb rfl
end
/-! ### kept unless tracked; of the frames at fs (the callers') the slots may change (an exception that passes writes there); of the records at ex (iterators) nothing is said -/
structure Un (fs ex : List Addr) (H H' : Hp) (h h' : Heap) : Prop where
  keep : ∀ b o, h.get? b = some o → H b = none → b ∉ fs → b ∉ ex → h'.get? b = some o
  slot : ∀ b o, h.get? b = some o → H b = none → b ∈ fs → b ∉ ex → ∃ sl, h'.get? b = some { o with slots := sl }
  free : ∀ b o, h.get? b = some o → H b = none → b ∉ ex → H' b = none
  there : ∀ b o, h.get? b = some o → b ∉ ex → ∃ o', h'.get? b = some o'
  tups : ∀ b xs, H b = some (.tup xs) → H' b = some (.tup xs)
  frzs : ∀ b o u, H b = some (.frz o u) → H' b = some (.frz o u)
  tbls : ∀ b ps, H b = some (.tbl ps) → ∃ more, H' b = some (.tbl (ps ++ more))
section
variable {fs fs' ex ex' : List Addr} {H H1 H2 : Hp} {h h1 h2 h' : Heap} {a x e : Addr} {o : HO}
theorem Un.any (u : Un fs ex H H1 h h1) {b : Addr} {ob : Obj} (q : h.get? b = some ob) (n : H b = none) (hx : b ∉ ex) : ∃ sl, h1.get? b = some { ob with slots := sl } := by
  by_cases hb : b ∈ fs
  · exact u.slot b ob q n hb hx
  · exact ⟨ob.slots, u.keep b ob q n hb hx⟩
theorem Un.kept (k : ∀ b u, h.get? b = some u → h'.get? b = some u) : Un fs ex H H h h' :=
  ⟨fun b ob q _ _ _ => k b ob q, fun b ob q _ _ _ => ⟨ob.slots, k b ob q⟩, fun _ _ _ n _ => n, fun b ob q _ => ⟨ob, k b ob q⟩, fun _ _ q => q, fun _ _ _ q => q, fun _ ps q => ⟨#[], by rw [q]; simp⟩⟩
theorem Un.refl : Un fs ex H H h h := Un.kept fun _ _ q => q
theorem Un.laid (k : ∀ b u, h.get? b = some u → h'.get? b = some u) (hp : h.objs.size ≤ a) (hn : H a = none) : Un fs ex H (upd H a o) h h' where
  keep := fun b u q _ _ _ => k b u q
  slot := fun b u q _ _ _ => ⟨u.slots, k b u q⟩
  free := fun b u q n _ => by rw [upd_ne (Nat.ne_of_lt (Nat.lt_of_lt_of_le (Heap.lt_size q) hp))]; exact n
  there := fun b u q _ => ⟨u, k b u q⟩
  tups := fun b xs q => by rw [upd_ne (ne_of_none q hn)]; exact q
  frzs := fun b u xs q => by rw [upd_ne (ne_of_none q hn)]; exact q
  tbls := fun b ps q => ⟨#[], by rw [upd_ne (ne_of_none q hn), q]; simp⟩
theorem Un.write (mu : Mut (H x)) (he : e = x ∨ H e = some (.own x)) (k : ∀ b u, b ≠ e → h.get? b = some u → h'.get? b = some u) (heo : ∃ u, h'.get? e = some u) : Un fs ex H (upd H x o) h h' := by
  have hx : ∀ b, H b = none → b ≠ x := fun b n z => by subst z; rw [n] at mu; exact mu
  have hb : ∀ b, H b = none → b ≠ e := fun b n z => by
    subst z
    rcases he with r | r
    · exact hx b n r
    · rw [n] at r; cases r
  have hm : ∀ b u, H b = some u → ¬ Mut (some u) → b ≠ x := fun b u q nm z => by subst z; rw [q] at mu; exact nm mu
  refine ⟨fun b u q n _ _ => k b u (hb b n) q, fun b u q n _ _ => ⟨u.slots, k b u (hb b n) q⟩, fun b u q n _ => by rw [upd_ne (hx b n)]; exact n, fun b u q _ => ?_,
    fun b xs q => by rw [upd_ne (hm b _ q fun z => z)]; exact q, fun b u xs q => by rw [upd_ne (hm b _ q fun z => z)]; exact q, fun b ps q => ⟨#[], by rw [upd_ne (hm b _ q fun z => z), q]; simp⟩⟩
  by_cases hbe : b = e
  · subst hbe; exact heo
  · exact ⟨u, k b u hbe q⟩
end
/-! ### the heap without what is tracked -/
def trk (h : Heap) (H : Hp) : List Addr := (List.range h.objs.size).filter fun a => (H a).isSome
def hidT (h : Heap) (H : Hp) : Heap := PySem.W.hideAll h (trk h H)
theorem hidT_size (h : Heap) (H : Hp) : (hidT h H).objs.size = h.objs.size := PySem.W.hideAll_size _ _
theorem hidT_get {h : Heap} {H : Hp} {b : Addr} {o : Obj} (e : h.get? b = some o) (n : H b = none) : (hidT h H).get? b = some o :=
  PySem.W.hideAll_get _ e fun hm => by
    have q : (H b).isSome = true := (List.mem_filter.mp hm).2
    rw [n] at q; simp at q
theorem of_hidT {h : Heap} {H : Hp} {b : Addr} {o : Obj} (e : (hidT h H).get? b = some o) : h.get? b = some o ∧ H b = none := by
  have e' : h.get? b = some o := PySem.W.of_hideAll (trk h H) e
  refine ⟨e', ?_⟩
  cases q : H b with
  | none => rfl
  | some x =>
    have hm : b ∈ trk h H := List.mem_filter.mpr ⟨List.mem_range.mpr (Heap.lt_size e'), by simp [q]⟩
    have z : (hidT h H).get? b = none := PySem.W.hideAll_none (trk h H) hm
    rw [z] at e; cases e
/-! ### OpenK's ledger, filled with every new object but one -/
end L2
namespace L2
open PySem PySem.Spec PyProof.Rows
/-- the module's facts, over the base: the heap at the law's entry without what is tracked there -/
structure Mod (K : PySem.W.Frag) (mg : Str → Option Value) (base : Heap) : Prop where
  kin : K.In base
  glob : base.Ns mainGlobals mg
  blt : ∃ mb, base.Ns builtinsNs mb ∧ ∀ x : Str, x ≠ "__name__" → mb x = bootBuiltins x
  nolimit : base.NoLimit
/-- the context: a def's body (or a comprehension's block) running. base: fixed through the whole law; s₀, H₀: the entry; outer: the frames whose slots others may change (a def's callers); stack: all frames that run;
   ex: iterators that were made ahead of the entry and are walked here (a comprehension's); fn: the names whose cells were made at the entry (a def: all; a comprehension's block: its own); calm: not within an except suite; pn: pins that every state bears; xe: what is wanted of an exception that leaves the code -/
structure Cx where
  prog : Program
  w : World
  K : PySem.W.Frag
  mg : Str → Option Value
  base : Heap
  A : Around
  N : List Str
  s_0 : Shared
  H_0 : Hp
  env : Env
  outer : List Env
  stack : List Env
  ex : List Addr
  fn : Str → Bool
  calm : Bool
  pn : List (Addr × Obj)
  xe : Value → Shared → Prop
/-- the callers' frames -/
def frs (l : List Env) : List Addr := l.filterMap (·.frame)
abbrev Cx.fs (X : Cx) : List Addr := frs X.outer
def Vis (sc : Scope) (x : Str) : Prop := sc.names.lookup x = some .local ∨ sc.names.lookup x = some .cell ∨ sc.names.lookup x = some .free
def Loc (sc : Scope) (x : Str) : Prop := sc.names.lookup x = some .local ∨ sc.names.lookup x = some .cell
def Look (env : Env) (h : Heap) (m : Str → Option Value) (x : Str) (u : Value) : Prop :=
  (env.kindOf x = some .local ∧ m x = some u) ∨ ((env.kindOf x = some .cell ∨ env.kindOf x = some .free) ∧ ∃ c, env.cells.lookup x = some c ∧ h.IsCell c (some u))
structure Cx.Ok (X : Cx) : Prop where
  mod : Mod X.K X.mg X.base
  kind : X.env.scope.kind = .function
  glob : X.env.globals = mainGlobals
  blt : X.env.builtins = builtinsNs
  above : X.s_0.heap.objs.size ≤ X.env.locals
  inj : ∀ x y c, X.env.cells.lookup x = some c → X.env.cells.lookup y = some c → x = y
  has : ∀ x, (X.env.kindOf x = some .cell ∨ X.env.kindOf x = some .free) → ∃ c, X.env.cells.lookup x = some c
  cab : ∀ x c, X.fn x = true → X.env.cells.lookup x = some c → X.s_0.heap.objs.size ≤ c
  hd : X.calm = true → X.A.handled = none
  frames : X.A.frames = some X.stack
  stk : X.stack = X.outer ∨ (X.stack = X.env :: X.outer ∧ X.env.frame = some X.env.locals)
  exf : ∀ b ∈ X.ex, b ≠ X.env.locals ∧ ∀ x c, X.env.cells.lookup x = some c → c ≠ b
  bs : ∀ b o, X.base.get? b = some o → X.s_0.heap.get? b = some o ∧ X.H_0 b = none
  bsz : X.base.objs.size ≤ X.s_0.heap.objs.size
  noex : ∀ b o, X.base.get? b = some o → b ∉ X.ex
  exfs : ∀ b ∈ X.ex, b ∉ X.fs
  funs : X.s_0.heap.FunFrames X.base X.outer
  frf : ∀ b ∈ X.fs, X.H_0 b = none
structure Inv (X : Cx) (pins : List (Addr × Obj)) (σ : List (Option V)) (H : Hp) (s : Shared) : Prop where
  ok : X.Ok
  os : s.os = X.s_0.os
  bare : AllBare s.gens
  base : Un X.fs X.ex X.H_0 H X.s_0.heap s.heap
  loc : ∃ m, s.heap.Ns X.env.locals m ∧ ∀ (i : Nat) (x : Str) (v : V), X.N[i]? = some x → σ[i]? = some (some v) → Vis X.env.scope x → ∃ u, RelV v u ∧ Look X.env s.heap m x u
  cell : ∀ x c, X.env.cells.lookup x = some c → ∃ v, s.heap.IsCell c v
  free : H X.env.locals = none
  freeC : ∀ x c, X.env.cells.lookup x = some c → H c = none
  pin : ∀ p ∈ X.pn ++ pins, s.heap.get? p.1 = some p.2 ∧ H p.1 = none ∧ p.1 ≠ X.env.locals ∧ p.1 ∉ X.fs ∧ ∀ v, p.2.data ≠ .cell v
  hok : HOk X.prog X.w H s.heap
  len : σ.length = X.N.length
section
variable {X : Cx} {pins : List (Addr × Obj)} {σ : List (Option V)} {H H' : Hp} {s : Shared} {h' : Heap}
theorem Cx.Ok.nofr (ok : X.Ok) {b : Addr} {o : Obj} (e : X.base.get? b = some o) : b ∉ X.fs := fun hb => by
  have := (ok.funs.mem hb).1
  rw [e] at this; cases this
theorem Inv.bs (I : Inv X pins σ H s) : ∀ b o, X.base.get? b = some o → s.heap.get? b = some o ∧ H b = none := fun b o e =>
  ⟨I.base.keep b o (I.ok.bs b o e).1 (I.ok.bs b o e).2 (I.ok.nofr e) (I.ok.noex b o e), I.base.free b o (I.ok.bs b o e).1 (I.ok.bs b o e).2 (I.ok.noex b o e)⟩
theorem Inv.bk (I : Inv X pins σ H s) : ∀ b o, X.base.get? b = some o → s.heap.get? b = some o := fun b o e => (I.bs b o e).1
theorem Inv.mod (I : Inv X pins σ H s) : Mod X.K X.mg X.base := I.ok.mod
theorem Inv.kIn (I : Inv X pins σ H s) : X.K.In s.heap := I.ok.mod.kin.keeps I.bk
/-- the frame over the base: for OpenK's rules (K.In X.base is I.mod.kin) -/
theorem Inv.fr (I : Inv X pins σ H s) : ∃ m, Fr X.base X.env.locals s.heap m :=
  let ⟨m, hn, _⟩ := I.loc
  ⟨m, hn, I.bk, Nat.le_trans I.ok.bsz I.ok.above⟩
theorem Inv.lt (I : Inv X pins σ H s) : X.env.locals < s.heap.objs.size := let ⟨_, hn, _⟩ := I.loc; hn.lt
theorem Inv.sz (I : Inv X pins σ H s) : X.s_0.heap.objs.size ≤ s.heap.objs.size := Nat.le_trans I.ok.above (Nat.le_of_lt I.lt)
theorem Inv.nofs (I : Inv X pins σ H s) {a : Addr} (h : s.heap.objs.size ≤ a) : a ∉ X.fs := fun hb => by
  obtain ⟨_, o, ho, _⟩ := I.ok.funs.mem hb
  exact absurd (Nat.lt_of_lt_of_le (Heap.lt_size ho) (Nat.le_trans I.sz h)) (Nat.lt_irrefl _)
theorem Inv.cne (I : Inv X pins σ H s) : ∀ x c, X.env.cells.lookup x = some c → c ≠ X.env.locals := fun x c e z => by
  obtain ⟨v, o, ho, hd⟩ := I.cell x c e
  obtain ⟨m, ⟨o', es, ep, ho', hd', _⟩, _⟩ := I.loc
  rw [z, ho'] at ho; cases ho; rw [hd'] at hd; cases hd
theorem Inv.funs (I : Inv X pins σ H s) : s.heap.FunFrames X.base X.outer := by
  have all : ∀ (l : List Env), (∀ b ∈ frs l, b ∈ X.fs) → X.s_0.heap.FunFrames X.base l → s.heap.FunFrames X.base l := by
    intro l
    induction l with
    | nil => intro _ _; trivial
    | cons env r ih =>
      intro hs hl
      obtain ⟨hk, ⟨L, o, hf, hn, ho, hd⟩, hr⟩ := hl
      have hL : L ∈ X.fs := hs L (by unfold frs; rw [List.filterMap_cons, hf]; exact List.mem_cons_self)
      obtain ⟨sl, e⟩ := I.base.slot L o ho (I.ok.frf L hL) hL fun z => I.ok.exfs L z hL
      exact ⟨hk, ⟨L, _, hf, hn, e, hd⟩, ih (fun b hb => hs b (by unfold frs; rw [List.filterMap_cons, hf]; exact List.mem_cons_of_mem _ hb)) hr⟩
  exact all X.outer (fun _ hb => hb) I.ok.funs
/-- the frames that run, for a call -/
theorem Inv.stack (I : Inv X pins σ H s) : s.heap.FunFrames X.base X.stack := by
  rcases I.ok.stk with e | ⟨e, hf⟩
  · rw [e]; exact I.funs
  · rw [e]
    obtain ⟨m, hn, _⟩ := I.loc
    refine .cons (by rw [I.ok.kind]; decide) hf hn ?_ I.funs
    exact Heap.get?_none_of_le (Nat.le_trans I.ok.bsz I.ok.above)
theorem Inv.stkSub (I : Inv X pins σ H s) : ∀ b ∈ frs X.stack, b ∈ X.env.locals :: X.fs := fun b hb => by
  rcases I.ok.stk with e | ⟨e, hf⟩
  · rw [e] at hb; exact List.mem_cons_of_mem _ hb
  · rw [e] at hb
    unfold frs at hb
    rw [List.filterMap_cons, hf] at hb
    exact hb
theorem Inv.stkFree (I : Inv X pins σ H s) : ∀ b ∈ frs X.stack, H b = none := fun b hb => by
  rcases List.mem_cons.mp (I.stkSub b hb) with e | hb
  · rw [e]; exact I.free
  · obtain ⟨_, o, ho, _⟩ := I.ok.funs.mem hb
    exact I.base.free b o ho (I.ok.frf b hb) fun z => I.ok.exfs b z hb
/-- THE STEP: the untracked objects but the frame and the records at ch are kept (the callers' frames up to slots), the frame's map is kept, the new abstract heap is held -/
theorem Inv.step {g' : Array GenState} {t' : Nat} {d' : Drawn} {ch : List Addr} (I : Inv X pins σ H s)
    (hch : ∀ b ∈ ch, (b ∈ X.ex ∨ X.s_0.heap.objs.size ≤ b) ∧ b ≠ X.env.locals ∧ (∀ x c, X.env.cells.lookup x = some c → c ≠ b) ∧ ∀ p ∈ X.pn ++ pins, p.1 ≠ b)
    (keep : ∀ b o, b ≠ X.env.locals → b ∉ X.fs → b ∉ ch → s.heap.get? b = some o → H b = none → h'.get? b = some o)
    (slot : ∀ b o, b ≠ X.env.locals → b ∈ X.fs → b ∉ ch → s.heap.get? b = some o → H b = none → ∃ sl, h'.get? b = some { o with slots := sl }) (free : ∀ b o, b ∉ ch → s.heap.get? b = some o → H b = none → H' b = none)
    (there : ∀ b o, b ∉ ch → s.heap.get? b = some o → ∃ o', h'.get? b = some o')
    (tups : ∀ b xs, H b = some (.tup xs) → H' b = some (.tup xs)) (frzs : ∀ b o u, H b = some (.frz o u) → H' b = some (.frz o u)) (tbls : ∀ b ps, H b = some (.tbl ps) → ∃ more, H' b = some (.tbl (ps ++ more)))
    (ns : ∀ m, s.heap.Ns X.env.locals m → h'.Ns X.env.locals m) (hok : HOk X.prog X.w H' h') (hg : AllBare g') :
    Inv X pins σ H' { s with heap := h', gens := g', drawn := d', toks := t' } := by
  have neL : ∀ b o, X.s_0.heap.get? b = some o → b ≠ X.env.locals := fun b o e => Nat.ne_of_lt (Nat.lt_of_lt_of_le (Heap.lt_size e) I.ok.above)
  have neC : ∀ b o, X.s_0.heap.get? b = some o → b ∉ X.ex → b ∉ ch := fun b o e hx hb => by
    rcases (hch b hb).1 with z | z
    · exact hx z
    · exact absurd (Nat.lt_of_lt_of_le (Heap.lt_size e) z) (Nat.lt_irrefl _)
  have cellK : ∀ x c, X.env.cells.lookup x = some c → ∀ v, s.heap.IsCell c v → h'.IsCell c v := fun x c e v ⟨o, ho, hd⟩ => by
    have nch : c ∉ ch := fun z => (hch c z).2.2.1 x c e rfl
    by_cases hc : c ∈ X.fs
    · obtain ⟨sl, q⟩ := slot c o (I.cne x c e) hc nch ho (I.freeC x c e)
      exact ⟨_, q, hd⟩
    · exact ⟨o, keep c o (I.cne x c e) hc nch ho (I.freeC x c e), hd⟩
  refine ⟨I.ok, I.os, hg, ⟨fun b o e n hb hx => ?_, fun b o e n hb hx => ?_, fun b o e n hx => ?_, fun b o e hx => ?_, fun b xs e => tups b xs (I.base.tups b xs e), fun b o xs e => frzs b o xs (I.base.frzs b o xs e), fun b ps e => ?_⟩, ?_, fun x c e => ?_, ?_, fun x c e => ?_, fun p hp => ?_, hok, I.len⟩
  · exact keep b o (neL b o e) hb (neC b o e hx) (I.base.keep b o e n hb hx) (I.base.free b o e n hx)
  · obtain ⟨sl, e1⟩ := I.base.slot b o e n hb hx
    obtain ⟨sl', e2⟩ := slot b _ (neL b o e) hb (neC b o e hx) e1 (I.base.free b o e n hx)
    exact ⟨sl', e2⟩
  · obtain ⟨o', e1⟩ := I.base.there b o e hx
    exact free b o' (neC b o e hx) e1 (I.base.free b o e n hx)
  · obtain ⟨o', e1⟩ := I.base.there b o e hx
    exact there b o' (neC b o e hx) e1
  · obtain ⟨m1, e1⟩ := I.base.tbls b ps e
    obtain ⟨m2, e2⟩ := tbls b _ e1
    exact ⟨m1 ++ m2, by rw [e2, Array.append_assoc]⟩
  · obtain ⟨m, hn, hl⟩ := I.loc
    refine ⟨m, ns m hn, fun i x v e1 e2 e3 => ?_⟩
    obtain ⟨u, r, l⟩ := hl i x v e1 e2 e3
    refine ⟨u, r, ?_⟩
    rcases l with l | ⟨k, c, e, z⟩
    · exact .inl l
    · exact .inr ⟨k, c, e, cellK x c e _ z⟩
  · obtain ⟨v, z⟩ := I.cell x c e
    exact ⟨v, cellK x c e v z⟩
  · obtain ⟨m, ⟨o, _, _, ho, _⟩, _⟩ := I.loc
    exact free _ o (fun z => (hch _ z).2.1 rfl) ho I.free
  · obtain ⟨v, o, ho, hd⟩ := I.cell x c e
    exact free c o (fun z => (hch c z).2.2.1 x c e rfl) ho (I.freeC x c e)
  · obtain ⟨e, n, ne, nf, d⟩ := I.pin p hp
    have nch : p.1 ∉ ch := fun z => (hch p.1 z).2.2.2 p hp rfl
    exact ⟨keep p.1 p.2 ne nf nch e n, free p.1 p.2 nch e n, ne, nf, d⟩
/-- .. where the frame's own object is kept too -/
theorem Inv.un {t' : Nat} (I : Inv X pins σ H s) (u : Un X.fs [] H H' s.heap h') (hok : HOk X.prog X.w H' h') : Inv X pins σ H' { s with heap := h', toks := t' } := by
  obtain ⟨m, ⟨o, es, ep, ho, r⟩, _⟩ := id I.loc
  obtain ⟨sl, hL⟩ := u.any ho I.free (by simp)
  exact I.step (g' := s.gens) (d' := s.drawn) (ch := []) (fun _ z => nomatch z) (fun b o _ hb _ e n => u.keep b o e n hb (by simp)) (fun b o _ hb _ e n => u.slot b o e n hb (by simp)) (fun b o _ e n => u.free b o e n (by simp)) (fun b o _ e => u.there b o e (by simp)) u.tups u.frzs u.tbls (fun m' hm => by
    obtain ⟨o', es', ep', ho', r'⟩ := hm
    rw [ho] at ho'; cases ho'
    exact ⟨_, es', ep', hL, r'⟩) hok I.bare
/-- behind a call (or a comprehension's block): the slots of this frame may have changed too, the records at ch may have turned -/
theorem Inv.call {g' : Array GenState} {t' : Nat} {d' : Drawn} {ch : List Addr} (I : Inv X pins σ H s) (u : Un (frs X.stack) ch H H' s.heap h') (hok : HOk X.prog X.w H' h') (hg : AllBare g')
    (hch : ∀ b ∈ ch, (b ∈ X.ex ∨ X.s_0.heap.objs.size ≤ b) ∧ b ≠ X.env.locals ∧ (∀ x c, X.env.cells.lookup x = some c → c ≠ b) ∧ ∀ p ∈ X.pn ++ pins, p.1 ≠ b) :
    Inv X pins σ H' { s with heap := h', gens := g', drawn := d', toks := t' } := by
  obtain ⟨m, ⟨o, es, ep, ho, r⟩, _⟩ := id I.loc
  obtain ⟨sl, hL⟩ := u.any ho I.free fun z => (hch _ z).2.1 rfl
  exact I.step (ch := ch) hch (fun b o hL hb hc e n => u.keep b o e n (fun z => (List.mem_cons.mp (I.stkSub b z)).elim hL hb) hc) (fun b o _ _ hc e n => u.any e n hc) (fun b o hc e n => u.free b o e n hc) (fun b o hc e => u.there b o e hc) u.tups u.frzs u.tbls (fun m' hm => by
    obtain ⟨o', es', ep', ho', r'⟩ := hm
    rw [ho] at ho'; cases ho'
    exact ⟨_, es', ep', hL, r'⟩) hok hg
/-- an untracked record of ours (an iterator) has turned -/
theorem Inv.turned {t' : Nat} {it : Addr} (I : Inv X pins σ H s) (k : ∀ b o, b ≠ it → s.heap.get? b = some o → h'.get? b = some o) (hn : H it = none) (hL : it ≠ X.env.locals)
    (h1 : it ∈ X.ex ∨ X.s_0.heap.objs.size ≤ it) (h2 : ∀ x c, X.env.cells.lookup x = some c → c ≠ it) (h3 : ∀ p ∈ X.pn ++ pins, p.1 ≠ it) : Inv X pins σ H { s with heap := h', toks := t' } := by
  have nit : ∀ b u, H b = some u → b ≠ it := fun b u e z => by rw [z, hn] at e; cases e
  refine I.step (g' := s.gens) (d' := s.drawn) (ch := [it]) (fun b hb => ?_) (fun b o _ _ hc e _ => k b o (fun z => hc (by simp [z])) e) (fun b o _ _ hc e _ => ⟨o.slots, k b o (fun z => hc (by simp [z])) e⟩) (fun _ _ _ _ n => n)
    (fun b o hc e => ⟨o, k b o (fun z => hc (by simp [z])) e⟩) (fun _ _ e => e) (fun _ _ _ e => e) (fun b ps e => ⟨#[], by rw [e]; simp⟩) (fun m hm => ?_) (fun b u e => ?_) I.bare
  · have e : b = it := by simpa using hb
    subst e
    exact ⟨h1, hL, h2, h3⟩
  · obtain ⟨o, es, ep, ho, r⟩ := hm
    exact ⟨o, es, ep, k _ o (Ne.symm hL) ho, r⟩
  · refine (I.hok b u e).stay (fun c v hc q => k c v ?_ q) (fun _ q => q) fun _ _ q => q
    rcases hc with z | z
    · rw [z]; exact nit b u e
    · exact nit c _ z
theorem Inv.tok (I : Inv X pins σ H s) (t : Nat) : Inv X pins σ H { s with toks := t } := I.un (h' := s.heap) (t' := t) Un.refl I.hok
/-- all objects kept -/
theorem Inv.kept {t' : Nat} (I : Inv X pins σ H s) (k : ∀ b u, s.heap.get? b = some u → h'.get? b = some u) : Inv X pins σ H { s with heap := h', toks := t' } := I.un (Un.kept k) (I.hok.kept k)
/-- a new object laid and tracked -/
theorem Inv.laid {a : Addr} {o : HO} {t' : Nat} (I : Inv X pins σ H s) (k : ∀ b u, s.heap.get? b = some u → h'.get? b = some u) (hp : s.heap.objs.size ≤ a) (new : ObjOk X.prog X.w (upd H a o) h' a o) :
    Inv X pins σ (upd H a o) { s with heap := h', toks := t' } := I.un (Un.laid k hp (I.hok.fresh hp)) (I.hok.laid k hp new)
/-- an object written -/
theorem Inv.write {x e : Addr} {o : HO} {t' : Nat} (I : Inv X pins σ H s) (mu : Mut (H x)) (he : e = x ∨ H e = some (.own x)) (k : ∀ b u, b ≠ e → s.heap.get? b = some u → h'.get? b = some u) (heo : ∃ u, h'.get? e = some u)
    (new : ObjOk X.prog X.w (upd H x o) h' x o) : Inv X pins σ (upd H x o) { s with heap := h', toks := t' } := I.un (Un.write mu he k heo) (I.hok.write mu he k heo new)
/-- forgetting slots, pins -/
theorem Inv.weak {σ' : List (Option V)} (I : Inv X pins σ H s) (hl : σ'.length = σ.length) (w : ∀ (i : Nat) v, σ'[i]? = some (some v) → σ[i]? = some (some v)) : Inv X pins σ' H s :=
  ⟨I.ok, I.os, I.bare, I.base, let ⟨m, hn, hl'⟩ := I.loc; ⟨m, hn, fun i x v e1 e2 e3 => hl' i x v e1 (w i v e2) e3⟩, I.cell, I.free, I.freeC, I.pin, I.hok, hl.trans I.len⟩
theorem Inv.pins_of {pins' : List (Addr × Obj)} (I : Inv X pins σ H s) (h : ∀ p ∈ pins', s.heap.get? p.1 = some p.2 ∧ H p.1 = none ∧ p.1 ≠ X.env.locals ∧ p.1 ∉ X.fs ∧ ∀ v, p.2.data ≠ .cell v) : Inv X pins' σ H s :=
  ⟨I.ok, I.os, I.bare, I.base, I.loc, I.cell, I.free, I.freeC, fun p hp => (List.mem_append.mp hp).elim (fun z => I.pin p (List.mem_append_left _ z)) (h p), I.hok, I.len⟩
theorem nodup_ix {N : List Str} (hN : N.Nodup) {i j : Nat} {x : Str} (a : N[i]? = some x) (b : N[j]? = some x) : i = j := by
  obtain ⟨h1, e1⟩ := List.getElem?_eq_some_iff.mp a
  obtain ⟨h2, e2⟩ := List.getElem?_eq_some_iff.mp b
  exact (List.getElem_inj hN).mp (e1.trans e2.symm)
/-- a name is stored; what changed -/
theorem store_ok2 {M : Model} {A : Around} {E : Value → Shared → Prop} {i : Nat} {x : Str} {v : V} {u : Value} {Q : Unit → Shared → Prop} (I : Inv X pins σ H s) (hN : X.N.Nodup) (hi : X.N[i]? = some x) (hx : Loc X.env.scope x) (r : RelV v u)
    (h : ∀ s', Inv X pins (σ.set i (some v)) H s' → (∃ a, Heap.SameBut a s.heap s'.heap ∧ (a = X.env.locals ∨ X.env.cells.lookup x = some a)) → Q () s') (hf : X.fn x = true ∨ X.env.scope.names.lookup x = some .local := by first | exact .inl rfl | exact .inr rfl | assumption) : wpAny M A (storeName X.env x u) Q E s := by
  obtain ⟨m, hn, hl⟩ := id I.loc
  have hcls : (X.env.scope.kind == .class || (X.env.scope.kind == .module && X.env.locals != X.env.globals)) = false := by rw [I.ok.kind]; rfl
  have hiσ : i < σ.length := by rw [I.len]; exact (List.getElem?_eq_some_iff.mp hi).1
  have cne := I.cne
  have tracked : ∀ {a : Addr} {h' : Heap}, (∃ o, s.heap.get? a = some o ∧ H a = none) → Heap.SameBut a s.heap h' → HOk X.prog X.w H h' := fun {a h'} ha hs b ob e => by
    obtain ⟨_, _, hfree⟩ := ha
    refine (I.hok b ob e).stay (fun c w' hc q => (hs.2 c ?_).trans q) (fun _ q => q) fun _ _ q => q
    rintro rfl
    rcases hc with rfl | hc
    · rw [hfree] at e; cases e
    · rw [hfree] at hc; cases hc
  rcases hx with hk | hk
  · refine wpAny_storeName_local hk hn (fun h' hn' hs => ?_) hcls
    obtain ⟨oL, _, _, hoL, _⟩ := id hn
    refine h _ ⟨I.ok, I.os, I.bare, ⟨fun b o e n hb hx => ?_, fun b o e n hb hx => ?_, I.base.free, fun b o e hx => ?_, I.base.tups, I.base.frzs, I.base.tbls⟩, ⟨_, hn', fun j y v' e1 e2 e3 => ?_⟩, fun y c e => ?_, I.free, I.freeC, fun p hp => ?_, tracked ⟨oL, hoL, I.free⟩ hs, by simpa using I.len⟩ ⟨_, hs, .inl rfl⟩
    · exact (hs.2 b (Nat.ne_of_lt (Nat.lt_of_lt_of_le (Heap.lt_size e) I.ok.above))).trans (I.base.keep b o e n hb hx)
    · obtain ⟨sl, e1⟩ := I.base.slot b o e n hb hx
      exact ⟨sl, (hs.2 b (Nat.ne_of_lt (Nat.lt_of_lt_of_le (Heap.lt_size e) I.ok.above))).trans e1⟩
    · obtain ⟨o', e1⟩ := I.base.there b o e hx
      exact ⟨o', (hs.2 b (Nat.ne_of_lt (Nat.lt_of_lt_of_le (Heap.lt_size e) I.ok.above))).trans e1⟩
    · by_cases hj : j = i
      · subst hj
        rw [hi] at e1; cases e1
        rw [List.getElem?_set_self hiσ] at e2
        cases e2
        exact ⟨u, r, .inl ⟨hk, by simp⟩⟩
      · rw [List.getElem?_set_ne (Ne.symm hj)] at e2
        obtain ⟨u', r', q⟩ := hl j y v' e1 e2 e3
        refine ⟨u', r', ?_⟩
        rcases q with ⟨k, e⟩ | ⟨k, c, e, z⟩
        · refine .inl ⟨k, ?_⟩
          have : y ≠ x := fun e => hj (nodup_ix hN e1 (e ▸ hi))
          simp [this, e]
        · exact .inr ⟨k, c, e, z.sameBut hs (cne y c e)⟩
    · obtain ⟨w', z⟩ := I.cell y c e
      exact ⟨w', z.sameBut hs (cne y c e)⟩
    · obtain ⟨e, n, ne, nf, d⟩ := I.pin p hp
      exact ⟨(hs.2 p.1 ne).trans e, n, ne, nf, d⟩
  · have hfn : X.fn x = true := by
      rcases hf with z | z
      · exact z
      · rw [z] at hk; cases hk
    obtain ⟨c, hc⟩ := I.ok.has x (.inl hk)
    obtain ⟨w', z⟩ := I.cell x c hc
    refine wpAny_storeName_cell I.ok.kind hk hc z (fun h' hc' hs => ?_)
    obtain ⟨oc, hoc, hocd⟩ := id z
    refine h { s with heap := h' } ⟨I.ok, I.os, I.bare, ⟨fun b o e n hb hx => ?_, fun b o e n hb hx => ?_, I.base.free, fun b o e hx => ?_, I.base.tups, I.base.frzs, I.base.tbls⟩, ⟨m, hn.sameBut hs (Ne.symm (cne x c hc)), fun j y v' e1 e2 e3 => ?_⟩, fun y c' e => ?_, I.free, I.freeC, fun p hp => ?_, tracked ⟨oc, hoc, I.freeC x c hc⟩ hs, by simpa using I.len⟩ ⟨c, hs, .inr hc⟩
    · exact (hs.2 b (Nat.ne_of_lt (Nat.lt_of_lt_of_le (Heap.lt_size e) (I.ok.cab x c hfn hc)))).trans (I.base.keep b o e n hb hx)
    · obtain ⟨sl, e1⟩ := I.base.slot b o e n hb hx
      exact ⟨sl, (hs.2 b (Nat.ne_of_lt (Nat.lt_of_lt_of_le (Heap.lt_size e) (I.ok.cab x c hfn hc)))).trans e1⟩
    · obtain ⟨o', e1⟩ := I.base.there b o e hx
      exact ⟨o', (hs.2 b (Nat.ne_of_lt (Nat.lt_of_lt_of_le (Heap.lt_size e) (I.ok.cab x c hfn hc)))).trans e1⟩
    · by_cases hj : j = i
      · subst hj
        rw [hi] at e1; cases e1
        rw [List.getElem?_set_self hiσ] at e2
        cases e2
        exact ⟨u, r, .inr ⟨.inl hk, c, hc, hc'⟩⟩
      · rw [List.getElem?_set_ne (Ne.symm hj)] at e2
        obtain ⟨u', r', q⟩ := hl j y v' e1 e2 e3
        refine ⟨u', r', ?_⟩
        rcases q with q | ⟨k, c', e, z'⟩
        · exact .inl q
        · refine .inr ⟨k, c', e, z'.sameBut hs ?_⟩
          rintro rfl
          exact hj (nodup_ix hN e1 (I.ok.inj _ _ _ e hc ▸ hi))
    · by_cases hcc : c' = c
      · subst hcc; exact ⟨_, hc'⟩
      · obtain ⟨w2, z2⟩ := I.cell y c' e
        exact ⟨w2, z2.sameBut hs hcc⟩
    · obtain ⟨e, n, ne, nf, d⟩ := I.pin p hp
      refine ⟨(hs.2 p.1 ?_).trans e, n, ne, nf, d⟩
      intro q
      rw [q, hoc] at e
      have q' : oc = p.2 := Option.some.inj e
      exact d w' (by rw [← q']; exact hocd)
theorem store_ok {M : Model} {A : Around} {E : Value → Shared → Prop} {i : Nat} {x : Str} {v : V} {u : Value} {Q : Unit → Shared → Prop} (I : Inv X pins σ H s) (hN : X.N.Nodup) (hi : X.N[i]? = some x) (hx : Loc X.env.scope x) (r : RelV v u)
    (h : ∀ s', Inv X pins (σ.set i (some v)) H s' → Q () s') (hf : X.fn x = true ∨ X.env.scope.names.lookup x = some .local := by first | exact .inl rfl | exact .inr rfl | assumption) : wpAny M A (storeName X.env x u) Q E s :=
  store_ok2 I hN hi hx r (fun s' I' _ => h s' I') hf
/-- behind a call or a block, the state as it is -/
theorem Inv.call' {s' : Shared} {ch : List Addr} (I : Inv X pins σ H s) (ho : s'.os = s.os) (u : Un (frs X.stack) ch H H' s.heap s'.heap) (hok : HOk X.prog X.w H' s'.heap) (hg : AllBare s'.gens)
    (hch : ∀ b ∈ ch, (b ∈ X.ex ∨ X.s_0.heap.objs.size ≤ b) ∧ b ≠ X.env.locals ∧ (∀ x c, X.env.cells.lookup x = some c → c ≠ b) ∧ ∀ p ∈ X.pn ++ pins, p.1 ≠ b) : Inv X pins σ H' s' := by
  obtain ⟨h', g', d', t', o'⟩ := s'
  have e : o' = s.os := ho
  subst e
  exact I.call (g' := g') (t' := t') (d' := d') u hok hg hch
end
/-! ### the judgements -/
/-- an exception: its class, its own dict's address (where it has one), the abstract heap behind it -/
abbrev XK := Value → Option Addr → Hp → Prop
abbrev St := List (Option V)
abbrev VK := V → Hp → Prop
/-- an expression's reading; a test's; an argument list's -/
abbrev TE := St → Hp → VK → Prop
abbrev TT := St → Hp → (Bool → Hp → Prop) → Prop
abbrev TA := St → Hp → (List V → Hp → Prop) → Prop
/-- what is wanted behind a statement -/
structure Ends where
  nx : St → Hp → Prop
  rt : VK
  bk : St → Hp → Prop := fun _ _ => False
  ct : St → Hp → Prop := fun _ _ => False
abbrev TS := Ends → St → Hp → Prop
def EP (X : Cx) (pins : List (Addr × Obj)) (σ : St) (Q : VK) (u : Value) (s' : Shared) : Prop := ∃ v H', Inv X pins σ H' s' ∧ RelV v u ∧ Q v H'
def TP (X : Cx) (pins : List (Addr × Obj)) (σ : St) (Q : Bool → Hp → Prop) (b : Bool) (s' : Shared) : Prop := ∃ H', Inv X pins σ H' s' ∧ Q b H'
def AP (X : Cx) (pins : List (Addr × Obj)) (σ : St) (Q : List V → Hp → Prop) (us : List Value) (s' : Shared) : Prop := ∃ vs H', Inv X pins σ H' s' ∧ Vals vs us ∧ Q vs H'
def SP (X : Cx) (pins : List (Addr × Obj)) (D : Ends) (f : Flow) (s' : Shared) : Prop :=
  match f with
  | .next => ∃ σ' H', Inv X pins σ' H' s' ∧ D.nx σ' H'
  | .brk => ∃ σ' H', Inv X pins σ' H' s' ∧ D.bk σ' H'
  | .cont => ∃ σ' H', Inv X pins σ' H' s' ∧ D.ct σ' H'
  | .ret u => ∃ v σ' H', Inv X pins σ' H' s' ∧ RelV v u ∧ D.rt v H'
def PE (X : Cx) (e : Expr) (t : TE) : Prop :=
  ∀ (pins : List (Addr × Obj)) (s : Shared) (σ : St) (H : Hp) (Q : VK), Inv X pins σ H s → t σ H Q → wpAny (model X.prog X.w) X.A (eval e X.env) (EP X pins σ Q) X.xe s
def PT (X : Cx) (e : Expr) (t : TT) : Prop :=
  ∀ (pins : List (Addr × Obj)) (s : Shared) (σ : St) (H : Hp) (Q : Bool → Hp → Prop), Inv X pins σ H s → t σ H Q → wpAny (model X.prog X.w) X.A (isTrue e X.env (eval e X.env)) (TP X pins σ Q) X.xe s
/-- a test whatever its 'whole' is (and, or) -/
def PW (X : Cx) (e : Expr) (t : TT) : Prop :=
  ∀ (whole : Sem Value) (pins : List (Addr × Obj)) (s : Shared) (σ : St) (H : Hp) (Q : Bool → Hp → Prop), Inv X pins σ H s → t σ H Q → wpAny (model X.prog X.w) X.A (isTrue e X.env whole) (TP X pins σ Q) X.xe s
theorem PW.pt {X : Cx} {e : Expr} {t : TT} (h : PW X e t) : PT X e t := h _
/-- an argument list (no star), from the left -/
def PA (X : Cx) (es : List Expr) (t : TA) : Prop :=
  ∀ (pos : Pos) (pins : List (Addr × Obj)) (s : Shared) (σ : St) (H : Hp) (Q : List V → Hp → Prop), Inv X pins σ H s → t σ H Q → wpAny (model X.prog X.w) X.A (spliced (backTo pos (starEach es X.env))) (AP X pins σ Q) X.xe s
def PS (X : Cx) (st : Stmt) (t : TS) : Prop :=
  ∀ (pins : List (Addr × Obj)) (s : Shared) (σ : St) (H : Hp) (D : Ends), Inv X pins σ H s → t D σ H → wpAny (model X.prog X.w) X.A (exec st X.env) (SP X pins D) X.xe s
def PSs (X : Cx) (st : List Stmt) (t : TS) : Prop :=
  ∀ (pins : List (Addr × Obj)) (s : Shared) (σ : St) (H : Hp) (D : Ends), Inv X pins σ H s → t D σ H → wpAny (model X.prog X.w) X.A (execs st X.env) (SP X pins D) X.xe s
/-- weaken the end -/
theorem thn {α : Type} {t : Sem α} {Q Q' : α → Shared → Prop} {M : Model} {A : Around} {E : Value → Shared → Prop} {s : Shared} (h : wpAny M A t Q E s) (hQ : ∀ a s, Q a s → Q' a s) : wpAny M A t Q' E s := wpAny_mono h hQ fun _ _ x => x
end L2
namespace L2
open PySem PySem.Spec PyProof.Rows
section
variable {X : Cx}
/-- two expressions in a row -/
theorem bin {a b : Expr} {ta tb : TE} (ha : PE X a ta) (hb : PE X b tb) {pins : List (Addr × Obj)} {s : Shared} {σ : St} {H : Hp} {R : V → V → Hp → Prop} (I : Inv X pins σ H s) (h : ta σ H fun x H1 => tb σ H1 fun y H2 => R x y H2)
    {α : Type} {Q : α → Shared → Prop} {f : Value → Value → Sem α}
    (hf : ∀ v u s2 x y H2, Inv X pins σ H2 s2 → RelV x v → RelV y u → R x y H2 → wpAny (model X.prog X.w) X.A (f v u) Q X.xe s2) :
    wpAny (model X.prog X.w) X.A (eval a X.env) (fun v s₁ => wpAny (model X.prog X.w) X.A (eval b X.env) (fun u s₂ => wpAny (model X.prog X.w) X.A (f v u) Q X.xe s₂) X.xe s₁) X.xe s := by
  refine thn (ha pins s σ H _ I h) fun v s1 ⟨x, H1, I1, r1, q1⟩ => ?_
  refine thn (hb pins s1 σ H1 _ I1 q1) fun u s2 ⟨y, H2, I2, r2, q2⟩ => ?_
  exact hf v u s2 x y H2 I2 r1 r2 q2
/-! ### names and constants -/
def tVar (i : Nat) : TE := fun σ H Q => ∃ v, σ[i]? = some (some v) ∧ Q v H
def tC (v : V) : TE := fun _ H Q => Q v H
theorem pe_var {i : Nat} {x : Str} {pos : Pos} (hN : X.N[i]? = some x) (hv : Vis X.env.scope x) (hd : (x == ("__debug__" : Str)) = false := by decide) (hcd : (x == ("__classdict__" : Str)) = false := by decide) : PE X (.Name x pos) (tVar i) := by
  intro pins s σ H Q I h
  obtain ⟨v, e, h⟩ := h
  obtain ⟨m, hn, hl⟩ := I.loc
  obtain ⟨u, r, l⟩ := hl i x v hN e hv
  have fin : EP X pins σ Q u s := ⟨v, H, I, r, h⟩
  rcases l with ⟨hk, hm⟩ | ⟨hk, c, hc, hcell⟩
  · exact wpAny_Name (wpAny_loadName_local I.ok.kind hk hn hm fin) hd
  · rcases hk with hk | hk
    · exact wpAny_Name (wpAny_loadName_cell I.ok.kind hk hc hcell fin) hd
    · exact wpAny_Name (wpAny_loadName_free I.ok.kind hk hc hcell fin hcd) hd
theorem pe_int {i j pos} : PE X (.Constant (.int i) j pos) (tC (.int i)) := fun _ _ _ H _ I h => wpAny_Constant_int ⟨.int i, H, I.tok _, ⟨_, rfl⟩, h⟩
theorem pe_bl {b j pos} : PE X (.Constant (.bool b) j pos) (tC (.bl b)) := fun _ _ _ H _ I h => Constant_bool ⟨.bl b, H, I, rfl, h⟩
theorem pe_non {j pos} : PE X (.Constant .none j pos) (tC .non) := fun _ _ _ H _ I h => Constant_none ⟨.non, H, I, rfl, h⟩
/-- a global name of the def -/
def Gl (X : Cx) (x : Str) : Prop := X.env.kindOf x = some .globalImplicit
theorem ld_glob {E : Value → Shared → Prop} {pins : List (Addr × Obj)} {s : Shared} {σ : St} {H : Hp} {x : Str} {u : Value} {pos : Pos} {Q : Value → Shared → Prop} (I : Inv X pins σ H s) (hg : Gl X x) (hm : X.mg x = some u) (h : Q u s)
    (hd : (x == ("__debug__" : Str)) = false := by decide) : wpAny (model X.prog X.w) X.A (eval (.Name x pos) X.env) Q E s :=
  Calls.Name_function_global I.ok.kind hg (Calls.loadGlobal_global (by rw [I.ok.glob]; exact I.mod.glob.keeps I.bk) hm h) hd
theorem ld_blt {E : Value → Shared → Prop} {pins : List (Addr × Obj)} {s : Shared} {σ : St} {H : Hp} {x : Str} {u : Value} {pos : Pos} {Q : Value → Shared → Prop} (I : Inv X pins σ H s) (hg : Gl X x) (hm : X.mg x = none) (hv : bootBuiltins x = some u) (h : Q u s)
    (hn : x ≠ "__name__" := by decide) (hd : (x == ("__debug__" : Str)) = false := by decide) : wpAny (model X.prog X.w) X.A (eval (.Name x pos) X.env) Q E s := by
  obtain ⟨mb, h1, h2⟩ := I.mod.blt
  exact Calls.Name_function_global I.ok.kind hg (Calls.loadGlobal_builtin (by rw [I.ok.glob]; exact I.mod.glob.keeps I.bk) hm (by rw [I.ok.blt]; exact h1.keeps I.bk) ((h2 x hn).trans hv) h) hd
/-- a module's constant, a class, a function, as a value -/
theorem pe_glob {x : Str} {v : V} {u : Value} {pos : Pos} (hg : Gl X x) (hm : X.mg x = some u) (r : RelV v u) (hd : (x == ("__debug__" : Str)) = false := by decide) : PE X (.Name x pos) (tC v) :=
  fun _ _ _ H _ I h => ld_glob I hg hm ⟨v, H, I, r, h⟩ hd
/-! ### arithmetic -/
variable {a b : Expr} {ta tb : TE} {pos : Pos}
/-! ### comparisons -/
def PC (X : Cx) (op : CmpOp) (a b : Expr) (t : TE) : Prop :=
  ∀ (pins : List (Addr × Obj)) (s : Shared) (σ : St) (H : Hp) (Q : VK), Inv X pins σ H s → t σ H Q →
    wpAny (model X.prog X.w) X.A (eval a X.env) (fun v s₁ => wpAny (model X.prog X.w) X.A (eval b X.env) (fun u s₂ => wpAny (model X.prog X.w) X.A (compareOp op v u) (EP X pins σ Q) X.xe s₂) X.xe s₁) X.xe s
/-- a comparison as a value, as a test -/
def tB (t : TE) : TT := fun σ H Q => t σ H fun x H1 => ∃ c, x = .bl c ∧ Q c H1
theorem pt_cmp {op : CmpOp} {t : TE} (h : PC X op a b t) (h1 : behindInMarks op b = false := by first | exact nobehind _ (by decide) (by decide) | rfl) : PT X (.Compare a [op] [b] pos) (tB t) := by
  intro pins s σ H Q I hw
  refine wpAny_isTrue_Compare1 (thn (h pins s σ H _ I hw) fun v s1 h1 => thn h1 fun u s2 h2 => thn h2 fun c s3 ⟨x, H1, I1, r1, q1⟩ => ?_) h1
  obtain ⟨d, rfl, q⟩ := q1
  cases r1
  exact wpAny_truthy_bool ⟨H1, I1, q⟩
/-- an expression whose value is a bool, as a test -/
theorem pt_val {e : Expr} {t : TE} (h : PE X e t) (he : ∀ whole, isTrue e X.env whole = (do let v ← whole; standAt e.pos; holding [v] (truthy v)) := by intro _; rfl) : PT X e (tB t) := by
  intro pins s σ H Q I hw
  refine isTrue_plain (thn (h pins s σ H _ I hw) fun v s1 ⟨x, H1, I1, r1, q1⟩ => ?_) (he _)
  obtain ⟨d, rfl, q⟩ := q1
  cases r1
  exact wpAny_truthy_bool ⟨H1, I1, q⟩
/-! ### and, or, not -/
variable {tA tB' : TT} {rest : List Expr}
def tAnd (t u : TT) : TT := fun σ H Q => t σ H fun c H1 => if c = true then u σ H1 Q else Q false H1
def tOr (t u : TT) : TT := fun σ H Q => t σ H fun c H1 => if c = true then Q true H1 else u σ H1 Q
def tNot (t : TT) : TT := fun σ H Q => t σ H fun c H1 => Q (!c) H1
theorem pw_and1 (ha : PT X a tA) : PW X (.BoolOp .And [a] pos) tA := by
  intro wh pins s σ H Q I h
  refine isTrue_and (thn (ha pins s σ H Q I h) fun c s1 e => ?_)
  cases c with
  | true => exact isTrue_and_nil e
  | false => exact e
theorem pw_or1 (ha : PT X a tA) : PW X (.BoolOp .Or [a] pos) tA := by
  intro wh pins s σ H Q I h
  refine isTrue_or (thn (ha pins s σ H Q I h) fun c s1 e => ?_)
  cases c with
  | false => exact isTrue_or_nil e
  | true => exact e
theorem pw_and (ha : PT X a tA) (hb : PW X (.BoolOp .And (b :: rest) pos) tB') : PW X (.BoolOp .And (a :: b :: rest) pos) (tAnd tA tB') := by
  intro wh pins s σ H Q I h
  refine isTrue_and (thn (ha pins s σ H _ I h) fun c s1 ⟨H1, I1, q1⟩ => ?_)
  cases c with
  | true => exact hb wh pins s1 σ H1 Q I1 q1
  | false => exact ⟨H1, I1, q1⟩
theorem pw_or (ha : PT X a tA) (hb : PW X (.BoolOp .Or (b :: rest) pos) tB') : PW X (.BoolOp .Or (a :: b :: rest) pos) (tOr tA tB') := by
  intro wh pins s σ H Q I h
  refine isTrue_or (thn (ha pins s σ H _ I h) fun c s1 ⟨H1, I1, q1⟩ => ?_)
  cases c with
  | true => exact ⟨H1, I1, q1⟩
  | false => exact hb wh pins s1 σ H1 Q I1 q1
theorem pt_not (ha : PT X a tA) : PT X (.UnaryOp .Not a pos) (tNot tA) := by
  intro pins s σ H Q I h
  exact isTrue_not (ha pins s σ H (fun c H1 => Q (!c) H1) I h)
/-- a if t else b -/
def tIf (t : TT) (ta tb : TE) : TE := fun σ H Q => t σ H fun c H1 => if c = true then ta σ H1 Q else tb σ H1 Q
theorem pe_ifExp {c : Expr} (hc : PT X c tA) (ha : PE X a ta) (hb : PE X b tb) : PE X (.IfExp c a b pos) (tIf tA ta tb) := by
  intro pins s σ H Q I h
  refine wpAny_IfExp (thn (hc pins s σ H _ I h) fun d s1 ⟨H1, I1, q1⟩ => ?_)
  cases d with
  | true => exact ha pins s1 σ H1 Q I1 q1
  | false => exact hb pins s1 σ H1 Q I1 q1
end
end L2
namespace L2
open PySem PySem.Spec PyProof.Rows
/-! ### a list, a tuple that is read: tracked, frozen, or an object of the module -/
def SqL (K : PySem.W.Frag) (H : Hp) (a : Addr) (xs : List V) : Prop :=
  Rd H a (.lst xs) ∨
    ∃ (o : Obj) (its : Array Value) (n : Nat), K.lookup a = some o ∧ o.cls = .type "list" ∧ o.dict = none ∧ o.data = .seq its n ∧ its.size ≤ sizeLine ∧ Vals xs its.toList
def SqT (K : PySem.W.Frag) (H : Hp) (a : Addr) (xs : List V) : Prop :=
  Rd H a (.tup xs) ∨
    ∃ (o : Obj) (its : Array Value) (n : Nat), K.lookup a = some o ∧ o.cls = .type "tuple" ∧ o.data = .seq its n ∧ its.size ≤ sizeLine ∧ Vals xs its.toList
def absV : Value → Option V
  | .none => some .non
  | .bool b => some (.bl b)
  | .int i _ => some (.int i)
  | .str x _ => some (.str x)
  | .bytes b _ => some (.byt b)
  | .float b _ => some (.flt b)
  | .ref a => some (.ref a)
  | .type n => some (.ty n)
  | _ => none
theorem RelV.abs {x : V} {u : Value} (r : RelV x u) : absV u = some x := by
  cases x with
  | non => cases r; rfl
  | bl _ => cases r; rfl
  | int _ => obtain ⟨t, rfl⟩ := r; rfl
  | str _ => obtain ⟨t, rfl⟩ := r; rfl
  | byt _ => obtain ⟨t, rfl⟩ := r; rfl
  | flt _ => obtain ⟨t, rfl⟩ := r; rfl
  | ref _ => cases r; rfl
  | ty _ => cases r; rfl
theorem RelV.inj {x y : V} {u : Value} (r : RelV x u) (q : RelV y u) : x = y := Option.some.inj (r.abs.symm.trans q.abs)
theorem Vals.inj : ∀ {xs ys : List V} {us : List Value}, Vals xs us → Vals ys us → xs = ys
  | _, _, _, .nil, .nil => rfl
  | _, _, _, .cons r t, .cons r' t' => by rw [r.inj r', Vals.inj t t']
section
variable {X : Cx} {pins : List (Addr × Obj)} {σ : St} {H : Hp} {s : Shared} {a : Addr} {xs ys : List V}
theorem SqL.of {K : PySem.W.Frag} (h : H a = some (.lst xs)) : SqL K H a xs := .inl (.inl h)
theorem SqT.of {K : PySem.W.Frag} (h : H a = some (.tup xs)) : SqT K H a xs := .inl (.inl h)
theorem Inv.list (I : Inv X pins σ H s) (h : SqL X.K H a xs) : ∃ its : List Value, Vals xs its ∧ PlainL s.heap a its.toArray ∧ xs.length ≤ sizeLine := by
  rcases h with h | ⟨o, its, n, hk, hc, hd, hs, hz, r⟩
  · obtain ⟨z, its, n, r, e⟩ := h.ok I.hok
    exact ⟨its, r, ⟨_, n, e, rfl, rfl, rfl⟩, z⟩
  · refine ⟨its.toList, r, ⟨o, n, I.kIn a o hk, hc, hd, by simpa using hs⟩, ?_⟩
    have e := r.length
    simp only [Array.length_toList] at e
    omega
theorem Inv.tuple (I : Inv X pins σ H s) (h : SqT X.K H a xs) : ∃ its : List Value, Vals xs its ∧ IsTup s.heap a its.toArray ∧ xs.length ≤ sizeLine := by
  rcases h with h | ⟨o, its, n, hk, hc, hs, hz, r⟩
  · obtain ⟨z, its, r, p⟩ := h.ok I.hok
    exact ⟨its, r, p, z⟩
  · refine ⟨its.toList, r, ⟨o, I.kIn a o hk, hc, n, by simpa using hs⟩, ?_⟩
    have e := r.length
    simp only [Array.length_toList] at e
    omega
theorem Inv.list_inj (I : Inv X pins σ H s) (h : SqL X.K H a xs) (h' : SqL X.K H a ys) : xs = ys := by
  obtain ⟨its, r, ⟨o, n, e, _, _, d⟩, _⟩ := I.list h
  obtain ⟨its', r', ⟨o', n', e', _, _, d'⟩, _⟩ := I.list h'
  rw [e] at e'; cases e'
  rw [d] at d'
  injection d' with d1 _
  have : its = its' := by simpa using congrArg Array.toList d1
  subst this
  exact r.inj r'
end
/-! ### another wish about exceptions -/
abbrev Cx.wish (X : Cx) (E : Value → Shared → Prop) : Cx := { X with xe := E }
/-- no exception leaves -/
abbrev Cx.nox (X : Cx) : Cx := X.wish fun _ _ => False
theorem Cx.Ok.wish {X : Cx} (ok : X.Ok) (E : Value → Shared → Prop) : (X.wish E).Ok :=
  ⟨ok.mod, ok.kind, ok.glob, ok.blt, ok.above, ok.inj, ok.has, ok.cab, ok.hd, ok.frames, ok.stk, ok.exf, ok.bs, ok.bsz, ok.noex, ok.exfs, ok.funs, ok.frf⟩
theorem Cx.Ok.unwish {X : Cx} {E : Value → Shared → Prop} (ok : (X.wish E).Ok) : X.Ok :=
  ⟨ok.mod, ok.kind, ok.glob, ok.blt, ok.above, ok.inj, ok.has, ok.cab, ok.hd, ok.frames, ok.stk, ok.exf, ok.bs, ok.bsz, ok.noex, ok.exfs, ok.funs, ok.frf⟩
section
variable {X : Cx} {pins : List (Addr × Obj)} {σ : St} {H : Hp} {s : Shared} {E : Value → Shared → Prop}
theorem Inv.wish (I : Inv X pins σ H s) (E : Value → Shared → Prop) : Inv (X.wish E) pins σ H s := ⟨I.ok.wish E, I.os, I.bare, I.base, I.loc, I.cell, I.free, I.freeC, I.pin, I.hok, I.len⟩
theorem Inv.unwish (I : Inv (X.wish E) pins σ H s) : Inv X pins σ H s := ⟨I.ok.unwish, I.os, I.bare, I.base, I.loc, I.cell, I.free, I.freeC, I.pin, I.hok, I.len⟩
theorem SP.unwish {D : Ends} {f : Flow} {s' : Shared} (h : SP (X.wish E) pins D f s') : SP X pins D f s' := by
  cases f with
  | next => obtain ⟨σ', H', I, q⟩ := h; exact ⟨σ', H', I.unwish, q⟩
  | brk => obtain ⟨σ', H', I, q⟩ := h; exact ⟨σ', H', I.unwish, q⟩
  | cont => obtain ⟨σ', H', I, q⟩ := h; exact ⟨σ', H', I.unwish, q⟩
  | ret u => obtain ⟨v, σ', H', I, r, q⟩ := h; exact ⟨v, σ', H', I.unwish, r, q⟩
theorem PSs.nox {st : List Stmt} {t : TS} (h : PSs X.nox st t) : PSs X st t := fun pins s σ H D I hw =>
  wpAny_mono (h pins s σ H D (I.wish _) hw) (fun _ _ q => q.unwish) fun _ _ z => False.elim z
end
/-! ### blocks and small statements -/
section
variable {X : Cx} {st : Stmt} {rest : List Stmt} {t u : TS} {e : Expr} {te : TE} {pos : Pos}
def tNext : TS := fun D σ H => D.nx σ H
def tSeq (t u : TS) : TS := fun D σ H => t { D with nx := u D } σ H
theorem pss_nil : PSs X [] tNext := fun _ _ σ H _ I h => wpAny_execs_nil ⟨σ, H, I, h⟩
theorem pss_cons (h1 : PS X st t) (h2 : PSs X rest u) : PSs X (st :: rest) (tSeq t u) := by
  intro pins s σ H D I h
  refine wpAny_execs_cons (thn (h1 pins s σ H { D with nx := u D } I h) fun f s1 q => ?_)
  cases f with
  | next =>
    obtain ⟨σ', H', I', q⟩ := q
    exact h2 pins s1 σ' H' D I' q
  | ret v => exact q
  | brk => exact q
  | cont => exact q
theorem pss_one (h1 : PS X st t) : PSs X [st] t := by
  intro pins s σ H D I h
  refine wpAny_execs_cons (thn (h1 pins s σ H D I h) fun f s1 q => ?_)
  cases f with
  | next => exact wpAny_execs_nil q
  | ret v => exact q
  | brk => exact q
  | cont => exact q
def tBreak : TS := fun D σ H => D.bk σ H
theorem ps_pass : PS X (.Pass pos) tNext := fun _ _ σ H _ I h => wpAny_Pass ⟨σ, H, I, h⟩
theorem ps_break : PS X (.Break pos) tBreak := fun _ _ σ H _ I h => wpAny_Break ⟨σ, H, I, h⟩
/-- in a def's body nothing is shown -/
theorem Inv.quiet {pins : List (Addr × Obj)} {σ : St} {H : Hp} {s : Shared} (I : Inv X pins σ H s) : interactive X.env = false := by simp [interactive, I.ok.kind]
/-- an expression whose value is dropped -/
def tDrop (te : TE) : TS := fun D σ H => te σ H fun _ H1 => D.nx σ H1
theorem ps_expr (he : PE X e te) (hs : swapsWith e none pos.line X.env = pure false := by rfl) : PS X (.Expr e pos) (tDrop te) := by
  intro pins s σ H D I h
  exact wpAny_Expr_any (thn (he pins s σ H _ I h) fun v s1 ⟨x, H1, I1, r1, q1⟩ => ⟨σ, H1, I1, q1⟩) I.quiet hs
def tRet (te : TE) : TS := fun D σ H => te σ H D.rt
theorem ps_ret (he : PE X e te) : PS X (.Return (some e) pos) (tRet te) := by
  intro pins s σ H D I h
  exact wpAny_Return_some (thn (he pins s σ H _ I h) fun v s1 ⟨x, H1, I1, r1, q1⟩ => ⟨x, σ, H1, I1, r1, q1⟩)
def tIfS (c : TT) (t u : TS) : TS := fun D σ H => c σ H fun b H1 => if b = true then t D σ H1 else u D σ H1
theorem ps_if {c : Expr} {a b : List Stmt} {tc : TT} (hc : PT X c tc) (ha : PSs X a t) (hb : PSs X b u) : PS X (.If c a b pos) (tIfS tc t u) := by
  intro pins s σ H D I h
  refine wpAny_If (thn (hc pins s σ H _ I h) fun d s1 ⟨H1, I1, q1⟩ => ?_)
  cases d with
  | true => exact ha pins s1 σ H1 D I1 q1
  | false => exact hb pins s1 σ H1 D I1 q1
end
/-! ### targets -/
abbrev TG := V → St → Hp → (St → Hp → Prop) → Prop
def PG (X : Cx) (target : Expr) (t : TG) : Prop :=
  ∀ (pins : List (Addr × Obj)) (s : Shared) (σ : St) (H : Hp) (v : V) (u : Value) (Q : St → Hp → Prop), Inv X pins σ H s → RelV v u → t v σ H Q →
    wpAny (model X.prog X.w) X.A (assign target X.env u) (fun _ s' => ∃ σ' H', Inv X pins σ' H' s' ∧ Q σ' H') X.xe s
/-- o[i] = v, by values -/
abbrev TSet := V → V → V → Hp → (Hp → Prop) → Prop
def PSet (X : Cx) (t : TSet) : Prop :=
  ∀ (pins : List (Addr × Obj)) (s : Shared) (σ : St) (H : Hp) (o i v : V) (ov iv u : Value) (Q : Hp → Prop), Inv X pins σ H s → RelV o ov → RelV i iv → RelV v u → t o i v H Q →
    wpAny (model X.prog X.w) X.A (setItem ov iv u) (fun _ s' => ∃ H', Inv X pins σ H' s' ∧ Q H') X.xe s
/-- a op= b, by values -/
abbrev TIp := V → V → Hp → VK → Prop
def PIp (X : Cx) (op : Operator) (t : TIp) : Prop :=
  ∀ (pins : List (Addr × Obj)) (s : Shared) (σ : St) (H : Hp) (x y : V) (v u : Value) (Q : VK), Inv X pins σ H s → RelV x v → RelV y u → t x y H Q →
    wpAny (model X.prog X.w) X.A (inplaceOp op v u) (EP X pins σ Q) X.xe s
section
variable {X : Cx} {pos : Pos}
def gName (i : Nat) : TG := fun v σ H Q => Q (σ.set i (some v)) H
theorem pg_name {i : Nat} {x : Str} (hN : X.N.Nodup) (hi : X.N[i]? = some x) (hx : Loc X.env.scope x) (hf : X.fn x = true ∨ X.env.scope.names.lookup x = some .local := by first | exact .inl rfl | exact .inr rfl | assumption) : PG X (.Name x pos) (gName i) := by
  intro pins s σ H v u Q I r h
  exact wpAny_assign_Name (store_ok I hN hi hx r (fun s' I' => ⟨_, H, I', h⟩) hf)
/-- o[i] = .. -/
def gSub (to ti : TE) (t : TSet) : TG := fun v σ H Q => to σ H fun o H1 => ti σ H1 fun i H2 => t o i v H2 fun H3 => Q σ H3
theorem pg_sub {o i : Expr} {to ti : TE} {t : TSet} (ho : PE X o to) (hi : PE X i ti) (hs : PSet X t)
    (ha : ∀ v, assign (.Subscript o i pos) X.env v = (do
      let ov ← holding [v] (eval o X.env)
      let iv ← holding [v, ov] (eval i X.env)
      standAt pos
      holding [v, ov, iv] (setItem ov iv v)
      release [v, ov, iv] []) := by intro _; rfl) : PG X (.Subscript o i pos) (gSub to ti t) := by
  intro pins s σ H v u Q I r h
  rw [ha]
  refine wpAny_bind (wpAny_holding (thn (ho pins s σ H _ I h) fun ov s1 ⟨x, H1, I1, r1, q1⟩ => ?_))
  refine wpAny_bind (wpAny_holding (thn (hi pins s1 σ H1 _ I1 q1) fun iv s2 ⟨y, H2, I2, r2, q2⟩ => ?_))
  refine wpAny_bind (wpAny_standAt (wpAny_bind (wpAny_holding (thn (hs pins s2 σ H2 x y v ov iv u _ I2 r1 r2 r q2) fun _ s3 ⟨H3, I3, q3⟩ => ?_))))
  exact wpAny_release ⟨σ, H3, I3, q3⟩
/-- target = value -/
def tAsg (te : TE) (g : TG) : TS := fun D σ H => te σ H fun x H1 => g x σ H1 D.nx
theorem ps_asg {tg e : Expr} {te : TE} {g : TG} (he : PE X e te) (hg : PG X tg g) (hs : swapsWithSole [tg] e pos.line X.env = pure false := by rfl) (hw : swappedStores [tg] e X.env = pure none := by rfl)
    (h1 : (assignEach [tg] X.env).map (·.2) = [assign tg X.env] := by rfl) : PS X (.Assign [tg] e pos) (tAsg te g) := by
  intro pins s σ H D I h
  refine wpAny_Assign_stores (thn (he pins s σ H _ I h) fun v s1 ⟨x, H1, I1, r1, q1⟩ => ?_) hs hw
  rw [h1]
  exact thn (hg pins s1 σ H1 x v _ I1 r1 q1) fun _ s2 q => q
/-- name = value -/
theorem ps_set {i : Nat} {x : Str} {e : Expr} {te : TE} {pos' : Pos} (hN : X.N.Nodup) (hi : X.N[i]? = some x) (hx : Loc X.env.scope x) (he : PE X e te) (hs : swapsWith e (some (.Name x pos')) pos.line X.env = pure false := by rfl) (hf : X.fn x = true ∨ X.env.scope.names.lookup x = some .local := by first | exact .inl rfl | exact .inr rfl | assumption) :
    PS X (.Assign [.Name x pos'] e pos) (tAsg te (gName i)) := by
  intro pins s σ H D I h
  refine wpAny_Assign_Name (thn (he pins s σ H _ I h) fun v s1 ⟨y, H1, I1, r1, q1⟩ => ?_) hs
  exact store_ok I1 hN hi hx r1 (fun s2 I2 => ⟨_, H1, I2, q1⟩) hf
/-- name op= e -/
def tAug (i : Nat) (te : TE) (ti : TIp) : TS := fun D σ H => ∃ x, σ[i]? = some (some x) ∧ te σ H fun y H1 => ti x y H1 fun z H2 => D.nx (σ.set i (some z)) H2
theorem ps_aug {i : Nat} {x : Str} {e : Expr} {te : TE} {op : Operator} {ti : TIp} {pos' : Pos} (hN : X.N.Nodup) (hi : X.N[i]? = some x) (hx : Loc X.env.scope x) (he : PE X e te) (ho : PIp X op ti) (hf : X.fn x = true ∨ X.env.scope.names.lookup x = some .local := by first | exact .inl rfl | exact .inr rfl | assumption) :
    PS X (.AugAssign (.Name x pos') op e pos) (tAug i te ti) := by
  intro pins s σ H D I h
  obtain ⟨v, e1, h⟩ := h
  obtain ⟨m, hn, hl⟩ := I.loc
  have vis : Vis X.env.scope x := by rcases hx with k | k; exact .inl k; exact .inr (.inl k)
  obtain ⟨u, r, l⟩ := hl i x v hi e1 vis
  refine wpAny_AugAssign_Name ?_
  have go : wpAny (model X.prog X.w) X.A (eval e X.env) (fun w s₂ => wpAny (model X.prog X.w) X.A (inplaceOp op u w) (fun r s₃ => wpAny (model X.prog X.w) X.A (storeName X.env x r) (fun _ => SP X pins D .next) X.xe s₃) X.xe s₂) X.xe s := by
    refine thn (he pins s σ H _ I h) fun w s1 ⟨y, H1, I1, r1, q1⟩ => ?_
    refine thn (ho pins s1 σ H1 v y u w _ I1 r r1 q1) fun z s2 ⟨zv, H2, I2, r2, q2⟩ => ?_
    exact store_ok I2 hN hi hx r2 (fun s3 I3 => ⟨_, H2, I3, q2⟩) hf
  rcases l with ⟨hk, hm⟩ | ⟨hk, c, hc, hcell⟩
  · exact wpAny_loadName_local I.ok.kind hk hn hm go
  · rcases hk with hk | hk
    · exact wpAny_loadName_cell I.ok.kind hk hc hcell go
    · rcases hx with k | k
      · have : X.env.scope.names.lookup x = some .free := hk
        rw [k] at this; cases this
      · have : X.env.scope.names.lookup x = some .free := hk
        rw [k] at this; cases this
/-- o[i] op= e -/
def tAugS (to ti te : TE) (tget : V → V → Hp → VK → Prop) (tip : TIp) (tset : TSet) : TS := fun D σ H => to σ H fun o H1 => ti σ H1 fun i H2 => tget o i H2 fun x H3 => te σ H3 fun y H4 => tip x y H4 fun z H5 => tset o i z H5 fun H6 => D.nx σ H6
/-- o[i], by values -/
def PGet (X : Cx) (t : V → V → Hp → VK → Prop) : Prop :=
  ∀ (pins : List (Addr × Obj)) (s : Shared) (σ : St) (H : Hp) (o i : V) (ov iv : Value) (Q : VK), Inv X pins σ H s → RelV o ov → RelV i iv → t o i H Q →
    wpAny (model X.prog X.w) X.A (getItem ov iv) (EP X pins σ Q) X.xe s
theorem ps_augS {o i e : Expr} {to ti te : TE} {tget : V → V → Hp → VK → Prop} {tip : TIp} {tset : TSet} {op : Operator} {tpos : Pos} (ho : PE X o to) (hi : PE X i ti) (hg : PGet X tget) (he : PE X e te) (hp : PIp X op tip) (hs : PSet X tset)
    (ha : ∀ ov iv new, augStore i ov iv new = (do holding [new, ov, iv] (setItem ov iv new); release [new, ov, iv] []; pure .next) := by intros; rfl) : PS X (.AugAssign (.Subscript o i tpos) op e pos) (tAugS to ti te tget tip tset) := by
  intro pins s σ H D I h
  refine wpAny_AugAssign_SubscriptAny (thn (ho pins s σ H _ I h) fun ov s1 ⟨x1, H1, I1, r1, q1⟩ => ?_) ha
  refine thn (hi pins s1 σ H1 _ I1 q1) fun iv s2 ⟨x2, H2, I2, r2, q2⟩ => ?_
  refine thn (hg pins s2 σ H2 x1 x2 ov iv _ I2 r1 r2 q2) fun old s3 ⟨x3, H3, I3, r3, q3⟩ => ?_
  refine thn (he pins s3 σ H3 _ I3 q3) fun v s4 ⟨x4, H4, I4, r4, q4⟩ => ?_
  refine thn (hp pins s4 σ H4 x3 x4 old v _ I4 r3 r4 q4) fun new s5 ⟨x5, H5, I5, r5, q5⟩ => ?_
  exact thn (hs pins s5 σ H5 x1 x2 x5 ov iv new _ I5 r1 r2 r5 q5) fun _ s6 ⟨H6, I6, q6⟩ => ⟨σ, H6, I6, q6⟩
/-- ints -/
def ipI (f : Int → Int → Int) : TIp := fun x y H Q => ∃ i j, x = .int i ∧ y = .int j ∧ Q (.int (f i j)) H
theorem ip_add : PIp X .Add (ipI fun i j => i + j) := by
  intro pins s σ H x y v u Q I r1 r2 h
  obtain ⟨i, j, e1, e2, q⟩ := h
  subst e1; subst e2
  obtain ⟨t, rfl⟩ := r1
  obtain ⟨t', rfl⟩ := r2
  exact iadd_int ⟨.int _, H, I.tok _, ⟨_, rfl⟩, q⟩
theorem ip_sub : PIp X .Sub (ipI fun i j => i - j) := by
  intro pins s σ H x y v u Q I r1 r2 h
  obtain ⟨i, j, e1, e2, q⟩ := h
  subst e1; subst e2
  obtain ⟨t, rfl⟩ := r1
  obtain ⟨t', rfl⟩ := r2
  exact isub_int ⟨.int _, H, I.tok _, ⟨_, rfl⟩, q⟩
end
/-! ### while -/
section
variable {X : Cx} {pos : Pos}
/-- the invariant W with its measure -/
def tWhile (c : TT) (tb : TS) : TS := fun D σ H => ∃ W : Nat → St → Hp → Prop, (∃ m, W m σ H) ∧ ∀ m σ H, W m σ H →
  c σ H fun b H1 => if b = true then ∃ N : St → Hp → Prop, (∀ σ' H', N σ' H' → ∃ m', m' < m ∧ W m' σ' H') ∧ tb { D with nx := N, ct := N, bk := D.nx } σ H1 else D.nx σ H1
theorem ps_while {c : Expr} {body : List Stmt} {tc : TT} {tb : TS} (hp : PassesOwn (model X.prog X.w) X.A X.env X.xe) (hc : PT X c tc) (hb : PSs X body tb) : PS X (.While c body [] pos) (tWhile tc tb) := by
  intro pins s σ H D I h
  obtain ⟨W, ⟨m0, w0⟩, turn⟩ := h
  refine wpAny_While (codeAny_whileLoop (fun n s' => ∃ σ' H', Inv X pins σ' H' s' ∧ W n σ' H') ?_ m0 ⟨σ, H, I, w0⟩)
  rintro n s1 ⟨σ1, H1, I1, w1⟩
  refine wpAny_passesOwn hp (thn (hc pins s1 σ1 H1 _ I1 (turn n σ1 H1 w1)) fun b s2 ⟨H2, I2, q2⟩ => ?_)
  cases b with
  | true =>
    obtain ⟨N, hN, q2⟩ := q2
    rw [if_pos rfl]
    refine wpAny_passesOwn hp (thn (hb pins s2 σ1 H2 _ I2 q2) fun f s3 q3 => ?_)
    cases f with
    | next =>
      obtain ⟨σ3, H3, I3, n3⟩ := q3
      obtain ⟨m', hm, w3⟩ := hN σ3 H3 n3
      exact ⟨m', hm, σ3, H3, I3, w3⟩
    | cont =>
      obtain ⟨σ3, H3, I3, n3⟩ := q3
      obtain ⟨m', hm, w3⟩ := hN σ3 H3 n3
      exact ⟨m', hm, σ3, H3, I3, w3⟩
    | brk => exact q3
    | ret v => exact q3
  | false =>
    rw [if_neg Bool.false_ne_true]
    exact wpAny_execs_nil ⟨σ1, H2, I2, q2⟩
end
/-! ### what a loop or a comprehension walks -/
/-- at turn i: it yields x (the heap may grow), or it stops -/
structure It where
  go : Nat → Hp → Prop
  yld : Nat → Hp → V → Hp → Prop
  stop : Nat → Hp → Prop
/-- the iterator's own objects may turn: they are not the frame's, not pinned, younger than the entry (or a comprehension's own) -/
def FpOk (X : Cx) (pins : List (Addr × Obj)) (H : Hp) (b : Addr) : Prop :=
  H b = none ∧ b ≠ X.env.locals ∧ b ∉ X.fs ∧ (b ∈ X.ex ∨ X.s_0.heap.objs.size ≤ b) ∧ (∀ x c, X.env.cells.lookup x = some c → c ≠ b) ∧ ∀ p ∈ X.pn ++ pins, p.1 ≠ b
theorem Inv.fpOk {X : Cx} {pins : List (Addr × Obj)} {σ : St} {H H' : Hp} {s : Shared} {b : Addr} (I : Inv X pins σ H s) (hb : s.heap.objs.size ≤ b) (hn : H' b = none) : FpOk X pins H' b := by
  refine ⟨hn, Nat.ne_of_gt (Nat.lt_of_lt_of_le I.lt hb), I.nofs hb, .inr (Nat.le_trans I.sz hb), fun x c e z => ?_, fun p hp z => ?_⟩
  · obtain ⟨v, q⟩ := I.cell x c e
    exact absurd (Nat.lt_of_lt_of_le q.lt (by rw [z]; exact hb)) (Nat.lt_irrefl _)
  · exact absurd (Nat.lt_of_lt_of_le (Heap.lt_size (I.pin p hp).1) (by rw [z]; exact hb)) (Nat.lt_irrefl _)
structure Turn (P : Program) (w : World) (K : PySem.W.Frag) (tg : Expr) (J : It) (fp : List Addr) (it : Addr) (tn : Nat → Heap → Prop) : Prop where
  mem : it ∈ fp
  obj : ∀ i h, tn i h → ∀ b ∈ fp, ∃ o, h.get? b = some o ∧ ∀ v, o.data ≠ .cell v
  keep : ∀ i h h', tn i h → (∀ b ∈ fp, ∀ o, h.get? b = some o → h'.get? b = some o) → tn i h'
  item : ∀ (X : Cx), X.prog = P → X.w = w → X.K = K → X.calm = true → ∀ (i : Nat) (pins : List (Addr × Obj)) (s : Shared) (σ : St) (H : Hp) (E : Value → Shared → Prop), Inv X pins σ H s → (∀ b ∈ fp, FpOk X pins H b) → tn i s.heap → J.go i H →
    wpAny (model P w) X.A (pyNext (.ref it)) (fun r s1 => ∃ u, r = some u ∧
      wpAny (model P w) X.A (letOwnedTupleGo tg (.ref it) u) (fun _ s2 => ∃ x H', Inv X pins σ H' s2 ∧ RelV x u ∧ J.yld i H x H' ∧ tn (i + 1) s2.heap ∧ ∀ b ∈ fp, H' b = none) E s1) E s
  done : ∀ (X : Cx), X.prog = P → X.w = w → X.K = K → X.calm = true → ∀ (i : Nat) (pins : List (Addr × Obj)) (s : Shared) (σ : St) (H : Hp) (E : Value → Shared → Prop), Inv X pins σ H s → (∀ b ∈ fp, FpOk X pins H b) → tn i s.heap → J.stop i H →
    wpAny (model P w) X.A (pyNext (.ref it)) (fun r s1 => r = none ∧ Inv X pins σ H s1) E s
  self : ∀ (A : Around) (i : Nat) (s : Shared) (Q : Value → Shared → Prop) (E : Value → Shared → Prop), tn i s.heap → Q (.ref it) s → wpAny (model P w) A (pyIter (.ref it)) Q E s
abbrev TI := St → Hp → (It → Hp → Prop) → Prop
/-- an iterator has come -/
def PIE (X : Cx) (pins : List (Addr × Obj)) (σ : St) (tg : Expr) (R : It → Hp → Prop) (itv : Value) (s2 : Shared) : Prop :=
  ∃ (it : Addr) (fp : List Addr) (tn : Nat → Heap → Prop) (J : It) (H' : Hp), itv = .ref it ∧ Inv X pins σ H' s2 ∧ Turn X.prog X.w X.K tg J fp it tn ∧ tn 0 s2.heap ∧ (∀ b ∈ fp, FpOk X pins H' b) ∧ R J H'
def PI (X : Cx) (tg iter : Expr) (wi : TI) : Prop :=
  ∀ (pins : List (Addr × Obj)) (s : Shared) (σ : St) (H : Hp) (R : It → Hp → Prop), Inv X pins σ H s → wi σ H R →
    wpAny (model X.prog X.w) X.A (eval iter X.env) (fun v s1 => wpAny (model X.prog X.w) X.A (pyIter v) (PIE X pins σ tg R) X.xe s1) X.xe s
/-- the step ahead of the store is nothing for an iterator that keeps no tuple -/
theorem go_of {M : Model} {A : Around} {E : Value → Shared → Prop} {s : Shared} {tg : Expr} {it : Addr} {u : Value} {o : Obj} {n : String} {vs : Array Value} {Q : Unit → Shared → Prop} (ho : s.heap.get? it = some o) (hc : o.cls = .type n) (hd : o.data = .fields vs)
    (hn : ["enumerate", "zip", "dict_itemiterator", "dict_reverseitemiterator", "odict_iterator", "itertools.zip_longest", "itertools.pairwise"].contains n = false) (hQ : Q () s) : wpAny M A (letOwnedTupleGo tg (.ref it) u) Q E s := by
  unfold letOwnedTupleGo
  cases tg <;> first
    | exact wpAny_pure hQ
    | (cases u <;> first
        | exact wpAny_pure hQ
        | (refine wpAny_bind (wpAny_load ho ?_)
           rw [hc, hd]
           show wpAny M A (if (["enumerate", "zip", "dict_itemiterator", "dict_reverseitemiterator", "odict_iterator", "itertools.zip_longest", "itertools.pairwise"].contains n && vs[0]? == some (rawInt _)) = true then _ else _) Q E s
           rw [if_neg (by intro h; rw [hn, Bool.false_and] at h; cases h)]
           exact wpAny_pure hQ))
/-- the list at a, as it stands at each turn (a loop may append to it) -/
def Itl (K : PySem.W.Frag) (a : Addr) : It :=
  ⟨fun i H => ∃ xs x, SqL K H a xs ∧ xs[i]? = some x, fun i H x H' => H' = H ∧ ∀ xs, SqL K H a xs → xs[i]? = some x, fun i H => ∃ xs, SqL K H a xs ∧ xs.length ≤ i⟩
/-- lo, lo + 1, .. (n of them) -/
def Itr (lo : Int) (n : Nat) : It := ⟨fun i _ => i < n, fun i H x H' => H' = H ∧ x = .int (lo + i), fun i _ => n ≤ i⟩
theorem turn_list {P : Program} {w : World} {K : PySem.W.Frag} {tg : Expr} (a it : Addr) : Turn P w K tg (Itl K a) [it] it (fun i h => h.IsListIter it a i) where
  mem := by simp
  obj := fun i h st b hb => by
    have e : b = it := by simpa using hb
    subst e
    obtain ⟨o, e, c, d⟩ := st
    exact ⟨o, e, fun v z => by rw [d] at z; cases z⟩
  keep := fun i h h' st k => st.at fun o e => k it (by simp) o e
  item := by
    intro X hP hw hK hc i pins s σ H E I hf st hg
    subst hP hw hK
    obtain ⟨xs, x, hq, hx⟩ := hg
    obtain ⟨its, rv, p, hz⟩ := I.list hq
    obtain ⟨u, hu, ru⟩ := rv.get hx
    obtain ⟨f0, f1, f2, f3, f4, f5⟩ := hf it (by simp)
    refine wpAny_pyNext_list_item st p.isList (x := u) (by simpa using hu) fun h' st' sb => ?_
    have I1 : Inv X pins σ H { s with heap := h' } := I.turned (t' := s.toks) (fun b o hb e => (sb.2 b hb).trans e) f0 f1 f3 f4 f5
    obtain ⟨o, e, c, d⟩ := id st'
    exact ⟨u, rfl, go_of (s := { s with heap := h' }) e c d (by decide) ⟨x, H, I1, ru, ⟨rfl, fun ys hy => by rw [I.list_inj hy hq]; exact hx⟩, st', fun b hb => (hf b hb).1⟩⟩
  done := by
    intro X hP hw hK hc i pins s σ H E I hf st hg
    subst hP hw hK
    obtain ⟨xs, hq, hx⟩ := hg
    obtain ⟨its, rv, p, hz⟩ := I.list hq
    obtain ⟨f0, f1, f2, f3, f4, f5⟩ := hf it (by simp)
    have hl := rv.length
    exact wpAny_pyNext_list_end (I.ok.hd hc) st p.isList (by simp; omega) fun h' eb => ⟨rfl, I.turned (t' := s.toks) (fun b o hb e => eb b o hb e) f0 f1 f3 f4 f5⟩
  self := fun _ _ _ _ _ st h => wpAny_pyIter_listiter st h
theorem turn_range {P : Program} {w : World} {K : PySem.W.Frag} {tg : Expr} (it : Addr) (lo : Int) (n : Nat) : Turn P w K tg (Itr lo n) [it] it (fun i h => IsRangeIter h it (lo + (i : Nat) * 1) ((n : Int) - (i : Nat)) 1) where
  mem := by simp
  obj := fun i h st b hb => by
    have e : b = it := by simpa using hb
    subst e
    exact ⟨_, st, fun v z => by
      have z' : Data.fields _ = Data.cell v := z
      cases z'⟩
  keep := fun i h h' st k => k it (by simp) _ st
  item := by
    intro X hP hw hK hc i pins s σ H E I hf st hg
    subst hP hw hK
    obtain ⟨f0, f1, f2, f3, f4, f5⟩ := hf it (by simp)
    have W := Walks.range (prog := X.prog) (w := X.w) (I.ok.hd hc) it lo 1 n
    refine W.item i s _ _ hg st fun v h' tk hv st' kk => ?_
    obtain ⟨t, rfl⟩ := hv
    have I1 : Inv X pins σ H { s with heap := h', toks := tk } := I.turned (fun b o hb e => kk b o (by simpa using hb) e) f0 f1 f3 f4 f5
    refine ⟨_, rfl, go_of (s := { s with heap := h', toks := tk }) (n := "range_iterator") st' rfl rfl (by decide) ⟨.int (lo + i), H, I1, ⟨t, ?_⟩, ⟨rfl, rfl⟩, st', fun b hb => (hf b hb).1⟩⟩
    rw [Int.mul_one]
  done := by
    intro X hP hw hK hc i pins s σ H E I hf st hg
    subst hP hw hK
    obtain ⟨f0, f1, f2, f3, f4, f5⟩ := hf it (by simp)
    exact wpAny_pyNext_range_end (I.ok.hd hc) st (by have : n ≤ i := hg; omega) fun h' eb => ⟨rfl, I.turned (t' := s.toks) (fun b o hb e => eb b o hb e) f0 f1 f3 f4 f5⟩
  self := fun _ _ _ _ _ st h => wpAny_pyIter_rangeiter st h
end L2
namespace L2
open PySem PySem.Spec PyProof.Rows
section
variable {X : Cx} {tg : Expr}
def iList (K : PySem.W.Frag) (tl : TE) : TI := fun σ H R => tl σ H fun x H1 => ∃ a, x = .ref a ∧ (∃ xs, SqL K H1 a xs) ∧ R (Itl K a) H1
theorem pi_list {l : Expr} {tl : TE} (hl : PE X l tl) : PI X tg l (iList X.K tl) := by
  intro pins s σ H R I h
  refine thn (hl pins s σ H _ I h) fun v s1 ⟨x, H1, I1, r1, q1⟩ => ?_
  obtain ⟨a, e, ⟨xs, hq⟩, q⟩ := q1
  subst e
  cases r1
  obtain ⟨its, rv, p, hz⟩ := I1.list hq
  refine wpAny_pyIter_list p.isList ?_
  refine ⟨s1.heap.objs.size, [s1.heap.objs.size], _, _, H1, rfl, I1.kept (t' := s1.toks) fun b o e => Heap.get?_push_of_some _ e, turn_list a _, ⟨_, Heap.get?_push_size _ rfl, rfl, rfl⟩, fun b hb => ?_, q⟩
  have e : b = s1.heap.objs.size := by simpa using hb
  subst e
  exact I1.fpOk (Nat.le_refl _) (I1.hok.fresh (Nat.le_refl _))
/-- a range object just made, walked -/
theorem range_it {pins : List (Addr × Obj)} {σ : St} {H : Hp} {s : Shared} {R : It → Hp → Prop} {E : Value → Shared → Prop} {lo hi : Int} {t u v : Tok} {tk : Nat} (I : Inv X pins σ H s) (h1 : -(2 ^ 62) ≤ lo) (h2 : lo < 2 ^ 62) (h3 : -(2 ^ 62) ≤ hi) (h4 : hi < 2 ^ 62)
    (q : R (Itr lo (hi - lo).toNat) H) : wpAny (model X.prog X.w) X.A (pyIter (.ref s.heap.objs.size)) (PIE X pins σ tg R) E { s with heap := s.heap.push { cls := .type "range", data := .fields #[.int lo t, .int hi u, .int 1 v] }, toks := tk } := by
  refine wpAny_pyIter_range (IsRange.new ..) (small_one h1 h2 h3 h4) ?_
  have I1 : Inv X pins σ H { s with heap := s.heap.push { cls := .type "range", data := .fields #[.int lo t, .int hi u, .int 1 v] }, toks := tk } := I.kept fun b o e => Heap.get?_push_of_some _ e
  refine ⟨(s.heap.push { cls := .type "range", data := .fields #[.int lo t, .int hi u, .int 1 v] }).objs.size, [(s.heap.push { cls := .type "range", data := .fields #[.int lo t, .int hi u, .int 1 v] }).objs.size], _, _, H, rfl,
    I1.kept (t' := tk) fun b o e => Heap.get?_push_of_some _ e, turn_range _ lo (hi - lo).toNat, ?_, fun b hb => ?_, q⟩
  · have e1 : lo + ((0 : Nat) : Int) * 1 = lo := by simp
    have e2 : (((hi - lo).toNat : Nat) : Int) - ((0 : Nat) : Int) = Builtin.Range.rangeSize lo hi 1 := by rw [rangeSize_one]; split <;> omega
    show IsRangeIter _ _ (lo + ((0 : Nat) : Int) * 1) ((((hi - lo).toNat : Nat) : Int) - ((0 : Nat) : Int)) 1
    rw [e1, e2]
    exact Heap.get?_push_size _ rfl
  · have e : b = (s.heap.push { cls := .type "range", data := .fields #[.int lo t, .int hi u, .int 1 v] }).objs.size := by simpa using hb
    subst e
    exact I1.fpOk (Nat.le_refl _) (I1.hok.fresh (Nat.le_refl _))
def iRng1 (ta : TA) : TI := fun σ H R => ta σ H fun vs H1 => ∃ j : Int, vs = [.int j] ∧ -(2 ^ 62) ≤ j ∧ j < 2 ^ 62 ∧ R (Itr 0 j.toNat) H1
theorem pi_range1 {a : Expr} {ta : TA} {p pos : Pos} (hg : Gl X "range") (hm : X.mg "range" = none) (ha : PA X [a] ta) (hs : starEach [a] X.env = [(false, eval a X.env)] := by rfl) : PI X tg (.Call (.Name "range" p) [a] [] pos) (iRng1 ta) := by
  intro pins s σ H R I h
  refine Call_ (ld_blt I hg hm boot_range (PyProof.Rows.callWith_type1 (thn (ha pos pins s σ H _ I h) fun us s1 ⟨vs, H1, I1, r1, q1⟩ => ?_) hs rfl))
  obtain ⟨j, e, q1, q2, q⟩ := q1
  subst e
  cases r1 with
  | cons r rr =>
    cases rr
    obtain ⟨t, rfl⟩ := r
    exact call_range_1 (range_it I1 (by omega) (by omega) q1 q2 (by simpa using q))
/-! ### for -/
/-- W: the invariant by the turn and a measure; N: what the body is to reach -/
def tFor (wi : TI) (g : TG) (tb : TS) : TS := fun D σ H => wi σ H fun J H1 => ∃ W : Nat → Nat → St → Hp → Prop, (∃ m, W 0 m σ H1) ∧ ∀ i m σ H, W i m σ H →
  (J.stop i H ∧ D.nx σ H) ∨ (J.go i H ∧ ∃ N : St → Hp → Prop, (∀ σ' H', N σ' H' → ∃ m', m' < m ∧ W (i + 1) m' σ' H') ∧ ∀ x H', J.yld i H x H' → g x σ H' fun σ2 H2 => tb { D with nx := N, ct := N, bk := D.nx } σ2 H2)
/-- the records at fp as they stand -/
def pinsAt (fp : List Addr) (h : Heap) : List (Addr × Obj) := fp.filterMap fun b => (h.get? b).map fun o => (b, o)
theorem mem_pinsAt {fp : List Addr} {h : Heap} {b : Addr} {o : Obj} (hb : b ∈ fp) (e : h.get? b = some o) : (b, o) ∈ pinsAt fp h := List.mem_filterMap.mpr ⟨b, hb, by rw [e]; rfl⟩
theorem of_pinsAt {fp : List Addr} {h : Heap} {p : Addr × Obj} (hp : p ∈ pinsAt fp h) : p.1 ∈ fp ∧ h.get? p.1 = some p.2 := by
  obtain ⟨b, hb, e⟩ := List.mem_filterMap.mp hp
  cases q : h.get? b with
  | none => rw [q] at e; cases e
  | some o =>
    rw [q] at e
    have e' : (b, o) = p := Option.some.inj e
    subst e'
    exact ⟨hb, q⟩
theorem Inv.pinned {pins : List (Addr × Obj)} {σ : St} {H : Hp} {s : Shared} {fp : List Addr} (I : Inv X pins σ H s) (hf : ∀ b ∈ fp, FpOk X pins H b) (ho : ∀ b ∈ fp, ∃ o, s.heap.get? b = some o ∧ ∀ v, o.data ≠ .cell v) : Inv X (pins ++ pinsAt fp s.heap) σ H s :=
  I.pins_of fun p hp => (List.mem_append.mp hp).elim (fun z => I.pin p (List.mem_append_right _ z)) fun z => by
    obtain ⟨hb, e⟩ := of_pinsAt z
    obtain ⟨f0, f1, f2, _⟩ := hf p.1 hb
    obtain ⟨o, e', d⟩ := ho p.1 hb
    rw [e] at e'; cases e'
    exact ⟨e, f0, f1, f2, d⟩
theorem Inv.unpinned {pins pl : List (Addr × Obj)} {σ : St} {H : Hp} {s : Shared} (I : Inv X (pins ++ pl) σ H s) : Inv X pins σ H s := I.pins_of fun p hp => I.pin p (List.mem_append_right _ (List.mem_append_left _ hp))
theorem ps_for {iter : Expr} {body : List Stmt} {wi : TI} {g : TG} {tb : TS} {pos : Pos} (hp : PassesOwn (model X.prog X.w) X.A X.env X.xe) (hc : X.calm = true) (hi : PI X tg iter wi) (hg : PG X tg g) (hb : PSs X body tb)
    (hs : ∀ x, foldedSetIterable iter X.env x = pure x := by intro _; rfl) : PS X (.For tg iter body [] pos) (tFor wi g tb) := by
  intro pins s σ H D I h
  refine wpAny_For (thn (hi pins s σ H _ I h) fun v s1 h1 => thn h1 fun itv s2 h2 => ?_) hs
  obtain ⟨it, fp, tn, J, H2, e, I2, T, st2, f2, W, ⟨m0, w0⟩, turn⟩ := h2
  subst e
  -- what stays true of the iterator's objects through the loop
  have stat : ∀ {H' : Hp}, (∀ b ∈ fp, H' b = none) → ∀ b ∈ fp, FpOk X pins H' b := fun hn b hb => ⟨hn b hb, (f2 b hb).2⟩
  refine codeAny_forLoop_any (fun n s' => ∃ i σ' H', Inv X pins σ' H' s' ∧ tn i s'.heap ∧ (∀ b ∈ fp, H' b = none) ∧ W i n σ' H') ?_ m0 ⟨0, σ, H2, I2, st2, fun b hb => (f2 b hb).1, w0⟩
  rintro n s3 ⟨i, σ3, H3, I3, st3, fr3, w3⟩
  rcases turn i n σ3 H3 w3 with ⟨stop, qn⟩ | ⟨go, N, hN, step⟩
  · refine wpAny_passesOwn hp (thn (T.done X rfl rfl rfl hc i pins s3 σ3 H3 X.xe I3 (stat fr3) st3 stop) fun r s4 ⟨hr, I4⟩ => ?_)
    subst hr
    exact wpAny_execs_nil ⟨σ3, H3, I4, qn⟩
  · refine wpAny_passesOwn hp (thn (T.item X rfl rfl rfl hc i pins s3 σ3 H3 X.xe I3 (stat fr3) st3 go) fun r s4 ⟨u, hr, h4⟩ => ?_)
    subst hr
    refine wpAny_passesOwn hp (thn h4 fun _ s5 ⟨x, H5, I5, r5, y5, st5, fr5⟩ => ?_)
    have I5' := I5.pinned (stat fr5) (T.obj _ _ st5)
    refine wpAny_passesOwn hp (thn (hg _ s5 σ3 H5 x u _ I5' r5 (step x H5 y5)) fun _ s6 ⟨σ6, H6, I6, q6⟩ => ?_)
    refine wpAny_passesOwn hp (thn (hb _ s6 σ6 H6 _ I6 q6) fun f s7 q7 => ?_)
    have again : ∀ {σ7 : St} {H7 : Hp}, Inv X (pins ++ pinsAt fp s5.heap) σ7 H7 s7 → N σ7 H7 → ∃ m, m < n ∧ ∃ i σ' H', Inv X pins σ' H' s7 ∧ tn i s7.heap ∧ (∀ b ∈ fp, H' b = none) ∧ W i m σ' H' := fun {σ7 H7} I7 n7 => by
      obtain ⟨m', hm, w7⟩ := hN σ7 H7 n7
      refine ⟨m', hm, i + 1, σ7, H7, I7.unpinned, T.keep _ _ _ st5 fun b hb o e => (I7.pin (b, o) (List.mem_append_right _ (List.mem_append_right _ (mem_pinsAt hb e)))).1, fun b hb => ?_, w7⟩
      obtain ⟨o, e, d⟩ := T.obj _ _ st5 b hb
      exact (I7.pin (b, o) (List.mem_append_right _ (List.mem_append_right _ (mem_pinsAt hb e)))).2.1
    cases f with
    | next => obtain ⟨σ7, H7, I7, n7⟩ := q7; exact again I7 n7
    | cont => obtain ⟨σ7, H7, I7, n7⟩ := q7; exact again I7 n7
    | brk => obtain ⟨σ7, H7, I7, q7⟩ := q7; exact ⟨σ7, H7, I7.unpinned, q7⟩
    | ret v => obtain ⟨x7, σ7, H7, I7, r7, q7⟩ := q7; exact ⟨x7, σ7, H7, I7.unpinned, r7, q7⟩
end
/-! ### the forms one uses -/
/-- over a list that the body leaves as it is -/
theorem for_list {K : PySem.W.Frag} {a : Addr} {xs : List V} {g : TG} {tb : TS} {D : Ends} {σ : St} {H : Hp} (Pv : Nat → St → Hp → Prop) (h0 : Pv 0 σ H) (hl : ∀ i σ H, i ≤ xs.length → Pv i σ H → SqL K H a xs)
    (hs : ∀ i x σ H, xs[i]? = some x → Pv i σ H → g x σ H fun σ2 H2 => tb { D with nx := Pv (i + 1), ct := Pv (i + 1), bk := D.nx } σ2 H2) (hd : ∀ σ H, Pv xs.length σ H → D.nx σ H) :
    ∃ W : Nat → Nat → St → Hp → Prop, (∃ m, W 0 m σ H) ∧ ∀ i m σ H, W i m σ H →
      ((Itl K a).stop i H ∧ D.nx σ H) ∨ ((Itl K a).go i H ∧ ∃ N : St → Hp → Prop, (∀ σ' H', N σ' H' → ∃ m', m' < m ∧ W (i + 1) m' σ' H') ∧ ∀ x H', (Itl K a).yld i H x H' → g x σ H' fun σ2 H2 => tb { D with nx := N, ct := N, bk := D.nx } σ2 H2) := by
  refine ⟨fun i m σ H => m = xs.length - i ∧ i ≤ xs.length ∧ Pv i σ H, ⟨xs.length, by simp, Nat.zero_le _, h0⟩, ?_⟩
  rintro i m σ H ⟨rfl, hi, p⟩
  have q := hl i σ H hi p
  by_cases hlt : i < xs.length
  · refine .inr ⟨⟨xs, xs[i], q, by simp [hlt]⟩, Pv (i + 1), fun σ' H' p' => ⟨xs.length - (i + 1), by omega, rfl, hlt, p'⟩, fun x H' y => ?_⟩
    obtain ⟨e, y⟩ := y
    subst e
    exact hs i x σ _ (y xs q) p
  · have e : i = xs.length := by omega
    subst e
    exact .inl ⟨⟨xs, q, Nat.le_refl _⟩, hd σ H p⟩
theorem for_range {lo : Int} {n : Nat} {g : TG} {tb : TS} {D : Ends} {σ : St} {H : Hp} (Pv : Nat → St → Hp → Prop) (h0 : Pv 0 σ H)
    (hs : ∀ i σ H, i < n → Pv i σ H → g (.int (lo + i)) σ H fun σ2 H2 => tb { D with nx := Pv (i + 1), ct := Pv (i + 1), bk := D.nx } σ2 H2) (hd : ∀ σ H, Pv n σ H → D.nx σ H) :
    ∃ W : Nat → Nat → St → Hp → Prop, (∃ m, W 0 m σ H) ∧ ∀ i m σ H, W i m σ H →
      ((Itr lo n).stop i H ∧ D.nx σ H) ∨ ((Itr lo n).go i H ∧ ∃ N : St → Hp → Prop, (∀ σ' H', N σ' H' → ∃ m', m' < m ∧ W (i + 1) m' σ' H') ∧ ∀ x H', (Itr lo n).yld i H x H' → g x σ H' fun σ2 H2 => tb { D with nx := N, ct := N, bk := D.nx } σ2 H2) := by
  refine ⟨fun i m σ H => m = n - i ∧ i ≤ n ∧ Pv i σ H, ⟨n, by simp, Nat.zero_le _, h0⟩, ?_⟩
  rintro i m σ H ⟨rfl, hi, p⟩
  by_cases hlt : i < n
  · refine .inr ⟨hlt, Pv (i + 1), fun σ' H' p' => ⟨n - (i + 1), by omega, rfl, hlt, p'⟩, fun x H' y => ?_⟩
    obtain ⟨e, y⟩ := y
    subst e y
    exact hs i σ _ hlt p
  · have e : i = n := by omega
    subst e
    exact .inl ⟨Nat.le_refl _, hd σ H p⟩
end L2
namespace L2
open PySem PySem.Spec PyProof.Rows
abbrev R2 := V → V → Hp → VK → Prop
/-- a two-place operation on values: f is binaryOp op, inplaceOp op or compareOp op -/
def OpR (X : Cx) (f : Value → Value → Sem Value) (r : R2) : Prop :=
  ∀ (pins : List (Addr × Obj)) (s : Shared) (σ : St) (H : Hp) (x y : V) (v u : Value) (Q : VK), Inv X pins σ H s → RelV x v → RelV y u → r x y H Q →
    wpAny (model X.prog X.w) X.A (f v u) (EP X pins σ Q) X.xe s
/-- a one-place operation -/
def UnR (X : Cx) (f : Value → Sem Value) (r : V → Hp → VK → Prop) : Prop :=
  ∀ (pins : List (Addr × Obj)) (s : Shared) (σ : St) (H : Hp) (x : V) (v : Value) (Q : VK), Inv X pins σ H s → RelV x v → r x H Q →
    wpAny (model X.prog X.w) X.A (f v) (EP X pins σ Q) X.xe s
/-- a call of a value that is known (a builtin, a type) with values -/
def CallR (X : Cx) (f : Value) (r : List V → Hp → VK → Prop) : Prop :=
  ∀ (pins : List (Addr × Obj)) (s : Shared) (σ : St) (H : Hp) (xs : List V) (us : List Value) (Q : VK), Inv X pins σ H s → Vals xs us → r xs H Q →
    wpAny (model X.prog X.w) X.A (call f us) (EP X pins σ Q) X.xe s
/-- a value's truth -/
def TruR (X : Cx) (r : V → Hp → (Bool → Hp → Prop) → Prop) : Prop :=
  ∀ (pins : List (Addr × Obj)) (s : Shared) (σ : St) (H : Hp) (x : V) (v : Value) (Q : Bool → Hp → Prop), Inv X pins σ H s → RelV x v → r x H Q →
    wpAny (model X.prog X.w) X.A (truthy v) (TP X pins σ Q) X.xe s
def tOp (r : R2) (ta tb : TE) : TE := fun σ H Q => ta σ H fun x H1 => tb σ H1 fun y H2 => r x y H2 Q
def tUn (r : V → Hp → VK → Prop) (ta : TE) : TE := fun σ H Q => ta σ H fun x H1 => r x H1 Q
/-- ints in, under C, and a value out -/
def rI (C : Int → Int → Prop) (g : Int → Int → V) : R2 := fun x y H Q => ∃ i j, x = .int i ∧ y = .int j ∧ C i j ∧ Q (g i j) H
def rI0 (g : Int → Int → V) : R2 := fun x y H Q => ∃ i j, x = .int i ∧ y = .int j ∧ Q (g i j) H
def rU (g : Int → V) : V → Hp → VK → Prop := fun x H Q => ∃ i, x = .int i ∧ Q (g i) H
section
variable {X : Cx} {a b c : Expr} {ta tb tc : TE} {pos : Pos}
theorem binT (ha : PE X a ta) (hb : PE X b tb) {pins : List (Addr × Obj)} {s : Shared} {σ : St} {H : Hp} {R : V → V → Hp → Prop} (I : Inv X pins σ H s)
    (h : ta σ H fun x H1 => tb σ H1 fun y H2 => R x y H2) {Q : Value → Shared → Prop} {f : Value → Value → Sem Value}
    (hf : ∀ v u s2 x y H2, Inv X pins σ H2 s2 → RelV x v → RelV y u → R x y H2 → wpAny (model X.prog X.w) X.A (f v u) Q X.xe s2) :
    wpAny (model X.prog X.w) X.A (eval a X.env) (fun v s₁ => wpAny (model X.prog X.w) X.A (eval b X.env) (fun u s₂ => wpAny (model X.prog X.w) X.A (f v u) Q X.xe s₂) X.xe s₁) X.xe s := by
  refine thn (ha pins s σ H _ I h) fun v s1 ⟨x, H1, I1, r1, q1⟩ => ?_
  refine thn (hb pins s1 σ H1 _ I1 q1) fun u s2 ⟨y, H2, I2, r2, q2⟩ => ?_
  exact hf v u s2 x y H2 I2 r1 r2 q2
theorem pe_op {op : Operator} {r : R2} (ho : OpR X (binaryOp op) r) (ha : PE X a ta) (hb : PE X b tb) : PE X (.BinOp a op b pos) (tOp r ta tb) := by
  intro pins s σ H Q I h
  exact wpAny_BinOp (binT ha hb I h fun v u s2 x y H2 I2 rx ry q => ho pins s2 σ H2 x y v u Q I2 rx ry q)
theorem pe_un {op : UnaryOp} {r : V → Hp → VK → Prop} (ho : UnR X (unaryOp op) r) (ha : PE X a ta) : PE X (.UnaryOp op a pos) (tUn r ta) := by
  intro pins s σ H Q I h
  exact UnaryOp_ (thn (ha pins s σ H _ I h) fun v s1 ⟨x, H1, I1, r1, q1⟩ => ho pins s1 σ H1 x v Q I1 r1 q1)
/-! ### ints -/
theorem opI {f : Value → Value → Sem Value} {C : Int → Int → Prop} {g : Int → Int → Int}
    (rule : ∀ (i j : Int) (t u : Tok) (s : Shared) (Q : Value → Shared → Prop) (E : Value → Shared → Prop), C i j → Q (.int (g i j) s.toks) { s with toks := s.toks + 1 } → wpAny (model X.prog X.w) X.A (f (.int i t) (.int j u)) Q E s) :
    OpR X f (rI C fun i j => .int (g i j)) := by
  intro pins s σ H x y v u Q I rx ry h
  obtain ⟨i, j, rfl, rfl, hc, q⟩ := h
  obtain ⟨t, rfl⟩ := rx
  obtain ⟨t', rfl⟩ := ry
  exact rule i j t t' s _ _ hc ⟨.int (g i j), H, I.tok _, ⟨_, rfl⟩, q⟩
theorem opI0 {f : Value → Value → Sem Value} {g : Int → Int → Int}
    (rule : ∀ (i j : Int) (t u : Tok) (s : Shared) (Q : Value → Shared → Prop) (E : Value → Shared → Prop), Q (.int (g i j) s.toks) { s with toks := s.toks + 1 } → wpAny (model X.prog X.w) X.A (f (.int i t) (.int j u)) Q E s) :
    OpR X f (rI0 fun i j => .int (g i j)) := by
  intro pins s σ H x y v u Q I rx ry h
  obtain ⟨i, j, rfl, rfl, q⟩ := h
  obtain ⟨t, rfl⟩ := rx
  obtain ⟨t', rfl⟩ := ry
  exact rule i j t t' s _ _ ⟨.int (g i j), H, I.tok _, ⟨_, rfl⟩, q⟩
theorem opB0 {f : Value → Value → Sem Value} {g : Int → Int → Bool}
    (rule : ∀ (i j : Int) (t u : Tok) (s : Shared) (Q : Value → Shared → Prop) (E : Value → Shared → Prop), Q (.bool (g i j)) s → wpAny (model X.prog X.w) X.A (f (.int i t) (.int j u)) Q E s) :
    OpR X f (rI0 fun i j => .bl (g i j)) := by
  intro pins s σ H x y v u Q I rx ry h
  obtain ⟨i, j, rfl, rfl, q⟩ := h
  obtain ⟨t, rfl⟩ := rx
  obtain ⟨t', rfl⟩ := ry
  exact rule i j t t' s _ _ ⟨.bl (g i j), H, I, rfl, q⟩
def CDiv (i j : Int) : Prop := 0 < j ∧ j < 1073741824
def CMul (i j : Int) : Prop := (-(2 ^ 64) < i ∧ i < 2 ^ 64) ∨ (-(2 ^ 64) < j ∧ j < 2 ^ 64)
theorem CMul.ok {i j : Int} (h : CMul i j) : IntMulOk i j := by
  rcases h with ⟨h1, h2⟩ | ⟨h1, h2⟩
  · exact .of_left (intBits_le_64 h1 h2)
  · exact .of_right (intBits_le_64 h1 h2)
theorem op_add : OpR X (binaryOp .Add) (rI0 fun i j => .int (i + j)) := opI0 fun _ _ _ _ _ _ _ q => add_int q
theorem op_sub : OpR X (binaryOp .Sub) (rI0 fun i j => .int (i - j)) := opI0 fun _ _ _ _ _ _ _ q => sub_int q
theorem op_mul : OpR X (binaryOp .Mult) (rI CMul fun i j => .int (i * j)) := opI fun _ _ _ _ _ _ _ hc q => mul_int q hc.ok
/-- // by a positive divisor -/
theorem op_fdiv : OpR X (binaryOp .FloorDiv) (rI CDiv fun i j => .int (i / j)) := opI fun i j _ _ _ _ _ hc q => by
  have h1 : (0 : Int) < j := hc.1
  have h2 : j < 1073741824 := hc.2
  exact floordiv_int (by omega) (by rw [Int.fdiv_eq_ediv_of_nonneg i (by omega)]; exact q) (.inl (PyProof.noPylong_small (by omega)))
/-- % by a positive divisor of any size -/
theorem op_mod : OpR X (binaryOp .Mod) (rI (fun _ j => 0 < j) fun i j => .int (i % j)) := opI fun i j _ _ _ _ _ hc q => by
  have h1 : (0 : Int) < j := hc
  exact mod_int' (by omega) (by rw [Int.fmod_eq_emod_of_nonneg i (by omega)]; exact q)
theorem op_xor : OpR X (binaryOp .BitXor) (rI0 fun i j => .int (Builtin.bitXor i j)) := opI0 fun _ _ _ _ _ _ _ q => xor_int q
theorem iop_mul : OpR X (inplaceOp .Mult) (rI CMul fun i j => .int (i * j)) := opI fun _ _ _ _ _ _ _ hc q => imul_int q hc.ok
theorem iop_fdiv : OpR X (inplaceOp .FloorDiv) (rI CDiv fun i j => .int (i / j)) := opI fun i j _ _ _ _ _ hc q => by
  have h1 : (0 : Int) < j := hc.1
  have h2 : j < 1073741824 := hc.2
  exact ifloordiv_int (by omega) (by rw [Int.fdiv_eq_ediv_of_nonneg i (by omega)]; exact q) (.inl (PyProof.noPylong_small (by omega)))
theorem unI {f : Value → Sem Value} {g : Int → Int}
    (rule : ∀ (i : Int) (t : Tok) (s : Shared) (Q : Value → Shared → Prop) (E : Value → Shared → Prop), Q (.int (g i) s.toks) { s with toks := s.toks + 1 } → wpAny (model X.prog X.w) X.A (f (.int i t)) Q E s) :
    UnR X f (rU fun i => .int (g i)) := by
  intro pins s σ H x v Q I rx h
  obtain ⟨i, rfl, q⟩ := h
  obtain ⟨t, rfl⟩ := rx
  exact rule i t s _ _ ⟨.int (g i), H, I.tok _, ⟨_, rfl⟩, q⟩
theorem un_neg : UnR X (unaryOp .USub) (rU fun i => .int (-i)) := unI fun _ _ _ _ _ q => neg_int q
/-! ### bools among ints: n += (a < b) -/
end
/-! ### comparisons -/
/-- the scalars that == tells apart as data does -/
def scal : V → V → Bool
  | .non, .non => true | .non, .int _ => true | .int _, .non => true | .non, .bl _ => true | .bl _, .non => true | .non, .str _ => true | .str _, .non => true
  | .int _, .int _ => true | .bl _, .bl _ => true | .str _, .str _ => true | .byt _, .byt _ => true
  | .int _, .str _ => true | .str _, .int _ => true | .bl _, .str _ => true | .str _, .bl _ => true
  | _, _ => false
def rEq : R2 := fun x y H Q => scal x y = true ∧ Q (.bl (decide (x = y))) H
theorem dec_int {i j : Int} : decide (V.int i = V.int j) = (i == j) := by
  rw [Bool.eq_iff_iff]
  simp
theorem dec_bl {i j : Bool} : decide (V.bl i = V.bl j) = (i == j) := by
  rw [Bool.eq_iff_iff]
  simp
theorem dec_str {i j : Str} : decide (V.str i = V.str j) = (i == j) := by
  rw [Bool.eq_iff_iff]
  simp
theorem dec_byt {i j : Array UInt8} : decide (V.byt i = V.byt j) = (i.toList == j.toList) := by
  rw [Bool.eq_iff_iff]
  cases i
  cases j
  simp
section
variable {X : Cx} {a b c : Expr} {ta tb tc : TE} {pos : Pos}
theorem fin_bl {pins : List (Addr × Obj)} {σ : St} {H : Hp} {s : Shared} {Q : VK} {k k' : Bool} (I : Inv X pins σ H s) (q : Q (.bl k) H) (e : k = k') : EP X pins σ Q (.bool k') s := by
  subst e
  exact ⟨.bl k, H, I, rfl, q⟩
theorem op_eq : OpR X (compareOp .Eq) rEq := by
  intro pins s σ H x y v u Q I rx ry h
  obtain ⟨hs, q⟩ := h
  cases x with
  | non =>
    cases rx
    cases y with
    | non => cases ry; exact PySem.EqNone.eq_none_none (fin_bl I q (by simp))
    | bl j => cases ry; exact PySem.EqNone.eq_none_bool (fin_bl I q (by simp))
    | int j => obtain ⟨t', rfl⟩ := ry; exact PySem.EqNone.eq_none_int (fin_bl I q (by simp))
    | str j => obtain ⟨t', rfl⟩ := ry; exact PySem.EqNone.eq_none_str (fin_bl I q (by simp))
    | _ => exact absurd (show false = true from hs) Bool.false_ne_true
  | bl i =>
    cases rx
    cases y with
    | non => cases ry; exact PySem.EqNone.eq_bool_none (fin_bl I q (by simp))
    | bl j => cases ry; exact eq_bool (fin_bl I q dec_bl)
    | str j => obtain ⟨t', rfl⟩ := ry; exact PySem.EqMixed.eq_bool_str (fin_bl I q (by simp))
    | _ => exact absurd (show false = true from hs) Bool.false_ne_true
  | int i =>
    obtain ⟨t, rfl⟩ := rx
    cases y with
    | non => cases ry; exact PySem.EqNone.eq_int_none (fin_bl I q (by simp))
    | int j => obtain ⟨t', rfl⟩ := ry; exact eq_int (fin_bl I q dec_int)
    | str j => obtain ⟨t', rfl⟩ := ry; exact PySem.EqMixed.eq_int_str (fin_bl I q (by simp))
    | _ => exact absurd (show false = true from hs) Bool.false_ne_true
  | str i =>
    obtain ⟨t, rfl⟩ := rx
    cases y with
    | non => cases ry; exact PySem.EqNone.eq_str_none (fin_bl I q (by simp))
    | bl j => cases ry; exact PySem.EqMixed.eq_str_bool (fin_bl I q (by simp))
    | int j => obtain ⟨t', rfl⟩ := ry; exact PySem.EqMixed.eq_str_int (fin_bl I q (by simp))
    | str j => obtain ⟨t', rfl⟩ := ry; exact eq_str (fin_bl I q dec_str)
    | _ => exact absurd (show false = true from hs) Bool.false_ne_true
  | byt i =>
    obtain ⟨t, rfl⟩ := rx
    cases y with
    | byt j => obtain ⟨t', rfl⟩ := ry; exact PySem.W.eq_bytes (fin_bl I q dec_byt)
    | _ => exact absurd (show false = true from hs) Bool.false_ne_true
  | _ => cases y <;> exact absurd (show false = true from hs) Bool.false_ne_true
theorem op_lt : OpR X (compareOp .Lt) (rI0 fun i j => .bl (decide (i < j))) := opB0 fun _ _ _ _ _ _ _ q => lt_int q
theorem op_le : OpR X (compareOp .LtE) (rI0 fun i j => .bl (decide (i ≤ j))) := opB0 fun _ _ _ _ _ _ _ q => le_int q
theorem op_gt : OpR X (compareOp .Gt) (rI0 fun i j => .bl (decide (j < i))) := opB0 fun _ _ _ _ _ _ _ q => gt_int q
theorem op_ge : OpR X (compareOp .GtE) (rI0 fun i j => .bl (decide (j ≤ i))) := opB0 fun _ _ _ _ _ _ _ q => ge_int q
/-- is None, is not None: the right side a value none -/
theorem op_isN : OpR X (compareOp .Is) (fun x y H Q => y = .non ∧ Q (.bl (decide (x = .non))) H) := by
  intro pins s σ H x y v u Q I rx ry h
  obtain ⟨rfl, q⟩ := h
  cases ry
  refine is_none_gen (fin_bl I q ?_)
  cases x <;> first
    | (cases rx; rfl)
    | (obtain ⟨t, rfl⟩ := rx; rfl)
theorem nomark (b : Expr) {op : CmpOp} (h : op ≠ .In := by decide) (h2 : op ≠ .NotIn := by decide) : behindInMarks op b = false := by
  have e1 : (op == CmpOp.In) = false := by cases op <;> first | rfl | exact absurd rfl h
  have e2 : (op == CmpOp.NotIn) = false := by cases op <;> first | rfl | exact absurd rfl h2
  cases b <;> simp [behindInMarks, e1, e2]
/-- a comparison as a value; hm: nomark b, or (for in, not in) by with_unfolding_all rfl -/
theorem pe_cmpR {op : CmpOp} {r : R2} (ho : OpR X (compareOp op) r) (ha : PE X a ta) (hb : PE X b tb) (hm : behindInMarks op b = false) : PE X (.Compare a [op] [b] pos) (tOp r ta tb) := by
  intro pins s σ H Q I h
  exact wpAny_Compare1 (binT ha hb I h fun v u s2 x y H2 I2 rx ry q => ho pins s2 σ H2 x y v u Q I2 rx ry q) hm
/-- a reading of a value as a test -/
def tTest (t : TE) : TT := fun σ H Q => t σ H fun x H' => ∃ k, x = .bl k ∧ Q k H'
theorem pt_cmpR {op : CmpOp} {r : R2} (ho : OpR X (compareOp op) r) (ha : PE X a ta) (hb : PE X b tb) (hm : behindInMarks op b = false) : PT X (.Compare a [op] [b] pos) (tTest (tOp r ta tb)) := by
  intro pins s σ H Q I h
  refine wpAny_isTrue_Compare1 (thn (ha pins s σ H _ I h) fun v s1 ⟨x, H1, I1, r1, q1⟩ => thn (hb pins s1 σ H1 _ I1 q1) fun u s2 ⟨y, H2, I2, r2, q2⟩ =>
    thn (ho pins s2 σ H2 x y v u _ I2 r1 r2 q2) fun c s3 ⟨z, H3, I3, r3, k, e, q3⟩ => ?_) hm
  subst e
  cases r3
  exact wpAny_truthy_bool ⟨H3, I3, q3⟩
/-! ### truth -/
/-- a value's truth by the abstract heap -/
def TruV (K : PySem.W.Frag) (x : V) (H : Hp) (k : Bool) : Prop :=
  match x with
  | .non => k = false
  | .bl b => k = b
  | .int i => k = (i != 0)
  | .str y => y.length ≤ sizeLine ∧ k = ((y.length : Int) != 0)
  | .byt y => y.size ≤ sizeLine ∧ k = ((y.size : Int) != 0)
  | .ref p => (∃ xs, SqL K H p xs ∧ k = !xs.isEmpty) ∨ (∃ xs, SqT K H p xs ∧ k = !xs.isEmpty) ∨ ∃ kvs, H p = some (.dK kvs) ∧ k = !kvs.isEmpty
  | _ => False
theorem isEmpty_kv {κ : Type} {kvs : List (κ × V)} {vs : List (κ × Value)} (r : KV kvs vs) : (!vs.isEmpty) = !kvs.isEmpty := by
  cases r <;> rfl
theorem isEmpty_of {xs : List V} {its : List Value} (r : Vals xs its) : (!its.toArray.isEmpty) = !xs.isEmpty := by
  cases r <;> simp
theorem line63 : (sizeLine : Nat) < 2 ^ 63 := by rw [sizeLine_eq]; decide
theorem tru_ok : TruR X (fun x H Q => ∃ k, TruV X.K x H k ∧ Q k H) := by
  intro pins s σ H x v Q I rx h
  obtain ⟨k, e, q⟩ := h
  have hl := line63
  have hs : sizeLine = 16777216 := sizeLine_eq
  cases x with
  | non =>
    cases rx
    have e' : k = false := e
    subst e'
    exact truthy_none ⟨H, I, q⟩
  | bl b =>
    cases rx
    have e' : k = b := e
    subst e'
    exact wpAny_truthy_bool ⟨H, I, q⟩
  | int i =>
    obtain ⟨t, rfl⟩ := rx
    have e' : k = (i != 0) := e
    subst e'
    exact PySem.P.truthy_int ⟨H, I, q⟩
  | str y =>
    obtain ⟨t, rfl⟩ := rx
    obtain ⟨hy, e'⟩ : y.length ≤ sizeLine ∧ k = ((y.length : Int) != 0) := e
    subst e'
    exact PySem.P.truthy_str (by omega) ⟨H, I.tok _, q⟩
  | byt y =>
    obtain ⟨t, rfl⟩ := rx
    obtain ⟨hy, e'⟩ : y.size ≤ sizeLine ∧ k = ((y.size : Int) != 0) := e
    subst e'
    exact PySem.W.truthy_bytes (by omega) ⟨H, I.tok _, q⟩
  | ref p =>
    cases rx
    have e' : (∃ xs, SqL X.K H p xs ∧ k = !xs.isEmpty) ∨ (∃ xs, SqT X.K H p xs ∧ k = !xs.isEmpty) ∨ ∃ kvs, H p = some (.dK kvs) ∧ k = !kvs.isEmpty := e
    rcases e' with ⟨xs, hx, e'⟩ | ⟨xs, hx, e'⟩ | ⟨kvs, hx, e'⟩
    · subst e'
      obtain ⟨its, r, pl, hz⟩ := I.list hx
      have hlen := r.length
      exact wpAny_truthy_list pl.isList (by simp only [List.size_toArray]; omega) ⟨H, I.tok _, by rw [isEmpty_of r]; exact q⟩
    · subst e'
      obtain ⟨its, r, pl, hz⟩ := I.tuple hx
      have hlen := r.length
      exact truthy_tuple pl (by simp only [List.size_toArray]; omega) ⟨H, I.tok _, by rw [isEmpty_of r]; exact q⟩
    · subst e'
      obtain ⟨hz, hS, vs, r, m⟩ : kvs.length ≤ sizeLine ∧ (p == sysModules) = false ∧ ∃ vs, KV kvs vs ∧ s.heap.DictOf (mixKind X.prog X.w) p vs := I.hok p _ hx
      have hlen : kvs.length = vs.length := Paired.length r
      exact wpAny_truthy_dict hS m (by omega) ⟨H, I.tok _, by rw [isEmpty_kv r]; exact q⟩
  | _ => exact (show False from e).elim
/-- any expression whose test is its value's truth (a name, a call, a subscript, a field ..: he by fun _ => rfl) -/
theorem pt_truth (ha : PE X a ta) (he : ∀ whole, isTrue a X.env whole = (do let v ← whole; standAt a.pos; holding [v] (truthy v))) :
    PT X a (fun σ H Q => ta σ H fun x H' => ∃ k, TruV X.K x H' k ∧ Q k H') := by
  intro pins s σ H Q I h
  exact isTrue_plain (thn (ha pins s σ H _ I h) fun v s1 ⟨x, H1, I1, r1, q1⟩ => tru_ok pins s1 σ H1 x v Q I1 r1 q1) (he _)
/-! ### strs and bytes -/
/-! ### scalar builtins, by CallR -/
theorem vals1 {x : V} {us : List Value} (r : Vals [x] us) : ∃ u, us = [u] ∧ RelV x u := by
  cases r with
  | cons r1 r2 => cases r2; exact ⟨_, rfl, r1⟩
theorem vals2 {x y : V} {us : List Value} (r : Vals [x, y] us) : ∃ u w', us = [u, w'] ∧ RelV x u ∧ RelV y w' := by
  cases r with
  | cons r1 r2 =>
    cases r2 with
    | cons r3 r4 => cases r4; exact ⟨_, _, rfl, r1, r3⟩
theorem call_min2 (hc : X.calm = true) : CallR X (.builtin "min") (fun xs H Q => ∃ i j, xs = [.int i, .int j] ∧ Q (.int (if j < i then j else i)) H) := by
  intro pins s σ H xs us Q I r h
  obtain ⟨i, j, rfl, q⟩ := h
  obtain ⟨u, w', rfl, ⟨t, rfl⟩, ⟨t', rfl⟩⟩ := vals2 r
  refine min_two_ints (I.ok.hd hc) fun h' tk k => ⟨_, H, I.kept k, ?_, q⟩
  by_cases hj : j < i
  · rw [if_pos hj, if_pos hj]; exact ⟨_, rfl⟩
  · rw [if_neg hj, if_neg hj]; exact ⟨_, rfl⟩
end
end L2
namespace L2
open PySem PySem.Spec PyProof.Rows
/-! ### an instance, its attributes a map -/
structure ObjM (h : Heap) (x dx C : Addr) (mA : Str → Option Value) : Prop where
  obj : h.get? x = some (PySem.W.instObj C dx)
  ns : h.Ns1 dx mA
  ne : dx ≠ x
theorem lookIn_ns {h : Heap} {dx : Addr} {mA : Str → Option Value} (n : h.Ns1 dx mA) : ∃ od, h.get? dx = some od ∧ ∀ name, PySem.W.lookIn name od = some (mA name) := by
  obtain ⟨o, es, ep, ho, hd, hk, _, hm⟩ := n
  refine ⟨o, ho, fun name => ?_⟩
  have e := hm name
  unfold nsFind findBy at e
  rw [← Array.find?_toList] at e
  unfold PySem.W.lookIn
  rw [hd]
  dsimp only
  split
  · rename_i y q
    rw [q] at e
    exact congrArg some e
  · rename_i q
    rw [q] at e
    have a : es.toList.any (·.refKey) = false := by
      rw [List.any_eq_false]
      intro y hy
      obtain ⟨z, t, hkey⟩ := hk y (Array.mem_toList_iff.mp hy)
      simp [DictEntry.refKey, hkey]
    have a' : ¬ es.toList.any (·.refKey) = true := by rw [a]; exact Bool.false_ne_true
    rw [if_neg a']
    exact congrArg some e
theorem ObjM.look {h : Heap} {x dx C : Addr} {mA : Str → Option Value} (I : ObjM h x dx C mA) : ∃ od, PySem.W.InstAt h x (PySem.W.instObj C dx) C (some od) ∧ ∀ name, PySem.W.lookIn name od = some (mA name) :=
  let ⟨od, ho, hl⟩ := lookIn_ns I.ns
  ⟨od, ⟨I.obj, rfl, rfl, ho⟩, hl⟩
section
variable {prog : Program} {w : World} {A : Around} {E : Value → Shared → Prop} {s : Shared} {K : PySem.W.Frag} {x dx C f : Addr} {mA : Str → Option Value} {name : Str} {v : Value}
theorem get_map {expr : Bool} {Q : Value → Shared → Prop} (X : K.In s.heap) (I : ObjM s.heap x dx C mA) (hg : PySem.W.plainGet K C name = true) (hh : PySem.W.hasDictIn K C = true)
    (ha : PySem.W.findIn K (.ref C) name = some none) (hv : mA name = some v) (hv' : PySem.W.handedIn v = true) (h : Q v { s with toks := s.toks + 1 }) :
    wpAny (model prog w) A (getAttr (.ref x) name expr) Q E s := by
  obtain ⟨od, J, hl⟩ := I.look
  exact PySem.W.get_value X J (PySem.W.plainGet_of hg).1 (PySem.W.findObj_own hh ha rfl (by rw [hl, hv])) hv' h
theorem get_meth {pl : Sem Bool} {Q : Value × List Value → Shared → Prop} (X : K.In s.heap) (I : ObjM s.heap x dx C mA) (hg : PySem.W.plainGet K C name = true)
    (hf : PySem.W.findIn K (.ref C) name = some (some (.ref f))) (ht : PySem.W.isFn K (.ref f) = true) (hv : mA name = none) (h : Q (.ref f, [.ref x]) s) :
    wpAny (model prog w) A (getMethod (.ref x) name pl) Q E s := by
  obtain ⟨od, J, hl⟩ := I.look
  exact PySem.W.method_fn X J (PySem.W.plainGet_of hg).1 (PySem.W.plainGet_of hg).2 hf (beq_iff_eq.mp ht) (by show (PySem.W.lookIn name od).map (·.isSome) = some false; rw [hl, hv]; rfl) h
theorem set_map {ns : List Str} {Q : Unit → Shared → Prop} (X : K.In s.heap) (I : ObjM s.heap x dx C mA)
    (hs : PySem.W.findIn K (.ref C) "__setattr__" = some (some (.builtin "object.__setattr__"))) (hp : PySem.W.plainOver K C = true) (ht : PySem.W.takerIn K C name = some none) (hh : PySem.W.hasDictIn K C = true)
    (hw : PySem.Within mA ns) (hsz : ns.length ≤ sizeLine)
    (h : ∀ h', ObjM h' x dx C (fun y => if y = name then some v else mA y) → Heap.SameBut dx s.heap h' → Q () { s with heap := h', toks := s.toks + 2 }) :
    wpAny (model prog w) A (setAttr (.ref x) name v) Q E s := by
  obtain ⟨od, J, hl⟩ := I.look
  refine PySem.W.set_plain X J hs (PySem.W.osa_open (s := { s with toks := s.toks + 1 }) (r := none) X J hp ht fun b => ?_)
  obtain ⟨cd, hc, hd'⟩ := PySem.W.any_some hh
  have hx : s.heap.get? x = some ⟨.ref C, some dx, .plain, #[]⟩ := I.obj
  refine wpAny_bind (wpAny_pure (wpAny_bind (wpAny_bind (wpAny_loadPart hx (wpAny_bind (PySem.W.Looks.here (s := { s with toks := s.toks + 1 }) (PySem.W.looks_clsIn X hc) ?_))))))
  rw [hd']
  refine wpAny_pure (a := some dx) (wpAny_bind (wpAny_pure (wpAny_bind ?_)))
  refine wpAny_nsSet1 (s := { s with toks := s.toks + 1 }) I.ns fun h' hn2 hs2 => ?_
  obtain ⟨oD, esD, epD, hoD, hdD, hcD⟩ := hn2.count (PySem.Within.cons name v hw)
  refine wpAny_bind (wpAny_lookBehind hoD (by rw [hdD]; exact pastItsLine_dict (Nat.le_trans hcD (by rw [List.length_cons]; omega))) ?_)
  exact wpAny_pure (h _ ⟨(hs2.2 _ (Ne.symm I.ne)).trans I.obj, hn2, I.ne⟩ hs2)
/-- C(..): the dict at the heap's end, the instance behind it; then its __init__ -/
theorem make_map {R : Result → Shared → Prop} {vs : List Value} {kw : List (Str × Value)} (X : K.In s.heap) (hm : PySem.W.makesIn K C = true)
    (hi : PySem.W.findIn K (.ref C) "__init__" = some (some (.ref f))) (hf : PySem.W.typeIn K (.ref f) = some (.type "function"))
    (h : codeAny (model prog w) (A.under (.builtin "type.__call__" ⟨.ref C :: vs, kw⟩)) (.call (.ref f) ⟨.ref (s.heap.objs.size + 1) :: vs, kw⟩) (PySem.W.InitBack (s.heap.objs.size + 1) R)
      { s with heap := (s.heap.push PySem.W.emptyDict).push (PySem.W.instObj C s.heap.objs.size) }) :
    codeAny (model prog w) A (.call (.ref C) ⟨vs, kw⟩) R s := by
  obtain ⟨hh, g, d, t, os⟩ := s
  exact PySem.W.make_core (PySem.W.makes_of X hm) (PySem.W.looks_findIn X hi) (fun self => PySem.W.bind_fn X self hf) (.inl rfl) h
end
/-! ### the attributes as a list of pairs -/
def putF (f : Str) (v : V) : List (Str × V) → List (Str × V)
  | [] => [(f, v)]
  | (g, x) :: r => if g = f then (g, v) :: r else (g, x) :: putF f v r
theorem lookup_putF (f g : Str) (v : V) : ∀ fs : List (Str × V), (putF f v fs).lookup g = if g = f then some v else fs.lookup g
  | [] => by
    show List.lookup g [(f, v)] = _
    by_cases h : g = f
    · have hb : (g == f) = true := beq_iff_eq.mpr h
      simp only [List.lookup, hb, if_pos h]
    · have hb : (g == f) = false := beq_eq_false_iff_ne.mpr h
      simp only [List.lookup, hb, if_neg h]
  | (k, x) :: r => by
    have ih := lookup_putF f g v r
    rw [show putF f v ((k, x) :: r) = (if k = f then (k, v) :: r else (k, x) :: putF f v r) from rfl]
    by_cases hk : k = f
    · rw [if_pos hk]
      by_cases h : g = k
      · have hb : (g == k) = true := beq_iff_eq.mpr h
        simp only [List.lookup, hb, if_pos (h.trans hk)]
      · have hb : (g == k) = false := beq_eq_false_iff_ne.mpr h
        simp only [List.lookup, hb, if_neg (fun e : g = f => h (e.trans hk.symm))]
    · rw [if_neg hk]
      by_cases h : g = k
      · have hb : (g == k) = true := beq_iff_eq.mpr h
        simp only [List.lookup, hb, if_neg (fun e : g = f => hk (h.symm.trans e))]
      · have hb : (g == k) = false := beq_eq_false_iff_ne.mpr h
        simp only [List.lookup, hb]
        exact ih
theorem keys_putF (f : Str) (v : V) : ∀ fs : List (Str × V), f ∈ (putF f v fs).map (·.1) ∧ ∀ g, g ∈ fs.map (·.1) → g ∈ (putF f v fs).map (·.1)
  | [] => ⟨by simp [putF], fun g h => by simp at h⟩
  | (k, x) :: r => by
    obtain ⟨i1, i2⟩ := keys_putF f v r
    rw [show putF f v ((k, x) :: r) = (if k = f then (k, v) :: r else (k, x) :: putF f v r) from rfl]
    by_cases hk : k = f
    · rw [if_pos hk]
      subst hk
      exact ⟨by simp, fun g h => by simpa using h⟩
    · rw [if_neg hk]
      refine ⟨?_, fun g h => ?_⟩
      · rw [List.map_cons]
        exact List.mem_cons_of_mem _ i1
      · rw [List.map_cons] at h ⊢
        rcases List.mem_cons.mp h with e | e
        · exact List.mem_cons.mpr (.inl e)
        · exact List.mem_cons_of_mem _ (i2 g e)
theorem length_putF (f : Str) (v : V) : ∀ fs : List (Str × V), (putF f v fs).length ≤ fs.length + 1
  | [] => by simp [putF]
  | (k, x) :: r => by
    have ih := length_putF f v r
    rw [show putF f v ((k, x) :: r) = (if k = f then (k, v) :: r else (k, x) :: putF f v r) from rfl]
    by_cases hk : k = f
    · rw [if_pos hk, List.length_cons, List.length_cons]; omega
    · rw [if_neg hk, List.length_cons, List.length_cons]; omega
theorem RelO.some_of {v : V} {o : Option Value} (r : RelO (some v) o) : ∃ u, o = some u ∧ RelV v u := by
  cases o with
  | none => exact (show False from r).elim
  | some u => exact ⟨u, rfl, r⟩
theorem RelO.none_of {o : Option Value} (r : RelO none o) : o = none := by
  cases o with
  | none => rfl
  | some u => exact (show False from r).elim
theorem handed_of {v : V} {u : Value} (r : RelV v u) : PySem.W.handedIn u = true := by
  cases v with
  | non => cases (show u = Value.none from r); rfl
  | bl b => cases (show u = Value.bool b from r); rfl
  | int i => obtain ⟨t, e⟩ := (show ∃ t, u = Value.int i t from r); cases e; rfl
  | str x => obtain ⟨t, e⟩ := (show ∃ t, u = Value.str x t from r); cases e; rfl
  | byt b => obtain ⟨t, e⟩ := (show ∃ t, u = Value.bytes b t from r); cases e; rfl
  | flt b => obtain ⟨t, e⟩ := (show ∃ t, u = Value.float b t from r); cases e; rfl
  | ref a => cases (show u = Value.ref a from r); rfl
  | ty n => cases (show u = Value.type n from r); rfl
section
variable {P : Program} {w : World} {H H' : Hp} {h h' : Heap} {a C dx : Addr} {fs fs' : List (Str × V)}
theorem ins_get (hok : HOk P w H h) (e : H a = some (.ins C dx fs)) : ∃ mA, ObjM h a dx C mA ∧ (∀ f, RelO (fs.lookup f) (mA f)) ∧ PySem.Within mA (fs.map (·.1)) ∧ fs.length ≤ 1000 ∧ H dx = some (.own a) := by
  obtain ⟨d, z, ne, ob, mA, n, r, q⟩ := (show ObjOk P w H h a (.ins C dx fs) from hok a _ e)
  exact ⟨mA, ⟨ob, n, ne⟩, r, q, z, d⟩
end
/-! ### what of the text a class must have -/
structure Cls (K : PySem.W.Frag) (C : Addr) : Prop where
  pg : PySem.W.plainGet K C Str.empty = true
  hd : PySem.W.hasDictIn K C = true
  po : PySem.W.plainOver K C = true
  sa : PySem.W.findIn K (.ref C) "__setattr__" = some (some (.builtin "object.__setattr__"))
theorem Cls.get {K : PySem.W.Frag} {C : Addr} (c : Cls K C) (f : Str) : PySem.W.plainGet K C f = true := c.pg
/-- no class of it has the name -/
def NoAttr (K : PySem.W.Frag) (C : Addr) (f : Str) : Prop := PySem.W.findIn K (.ref C) f = some none
theorem NoAttr.taker {K : PySem.W.Frag} {C : Addr} {f : Str} (n : NoAttr K C f) : PySem.W.takerIn K C f = some none := by
  unfold PySem.W.takerIn
  rw [show PySem.W.findIn K (.ref C) f = some none from n]
  rfl
/-- a method: a plain def of the class or of one above it -/
structure Meth (K : PySem.W.Frag) (C : Addr) (m : Str) (f : Addr) : Prop where
  at_ : PySem.W.findIn K (.ref C) m = some (some (.ref f))
  fn : PySem.W.isFn K (.ref f) = true
  kp : PySem.W.keepIn K (.ref f) = true
section
variable {X : Cx} {pins : List (Addr × Obj)} {σ : St} {H : Hp} {s : Shared} {a C dx : Addr} {fs : List (Str × V)} {f : Str} {v : V} {A : Around} {E : Value → Shared → Prop}
theorem getattr_ok {b : Bool} {Q : Value → Shared → Prop} (I : Inv X pins σ H s) (e : H a = some (.ins C dx fs)) (c : Cls X.K C) (n : NoAttr X.K C f) (l : fs.lookup f = some v)
    (h : ∀ u s', Inv X pins σ H s' → RelV v u → Q u s') : wpAny (model X.prog X.w) A (getAttr (.ref a) f b) Q E s := by
  obtain ⟨mA, O, r, _, _, _⟩ := ins_get I.hok e
  obtain ⟨u, hu, ru⟩ := RelO.some_of (v := v) (o := mA f) (by rw [← l]; exact r f)
  exact get_map I.kIn O (c.get f) c.hd n hu (handed_of ru) (h u _ (I.tok _) ru)
theorem getmeth_ok {m : Str} {g : Addr} {pl : Sem Bool} {Q : Value × List Value → Shared → Prop} (I : Inv X pins σ H s) (e : H a = some (.ins C dx fs)) (c : Cls X.K C) (k : Meth X.K C m g) (l : fs.lookup m = none)
    (h : Q (.ref g, [.ref a]) s) : wpAny (model X.prog X.w) A (getMethod (.ref a) m pl) Q E s := by
  obtain ⟨mA, O, r, _, _, _⟩ := ins_get I.hok e
  have hn : mA m = none := RelO.none_of (by rw [← l]; exact r m)
  exact get_meth I.kIn O (c.get m) k.at_ k.fn hn h
theorem setattr_ok {y : V} {u : Value} {Q : Unit → Shared → Prop} (I : Inv X pins σ H s) (e : H a = some (.ins C dx fs)) (c : Cls X.K C) (n : NoAttr X.K C f) (hl : fs.length < 1000) (ry : RelV y u)
    (h : ∀ s', Inv X pins σ (upd H a (.ins C dx (putF f y fs))) s' → Q () s') : wpAny (model X.prog X.w) A (setAttr (.ref a) f u) Q E s := by
  obtain ⟨mA, O, r, wi, _, ho⟩ := ins_get I.hok e
  have hz : (fs.map (·.1)).length ≤ sizeLine := by rw [List.length_map, sizeLine_eq]; omega
  refine set_map I.kIn O c.sa c.po n.taker c.hd wi hz fun h' O' sb => h _ ?_
  have hd : ∃ o, h'.get? dx = some o := let ⟨o, _, _, e', _⟩ := O'.ns; ⟨o, e'⟩
  refine I.write (x := a) (e := dx) (by rw [e]; exact True.intro) (.inr ho) (fun b q hb z => (sb.2 b hb).trans z) hd ?_
  refine ⟨by rw [upd_ne O.ne]; exact ho, ?_, O.ne, O'.obj, _, O'.ns, fun g => ?_, fun g hg => ?_⟩
  · have := length_putF f y fs; omega
  · show RelO ((putF f y fs).lookup g) (if g = f then some u else mA g)
    rw [lookup_putF]
    by_cases q : g = f
    · rw [if_pos q, if_pos q]; exact ry
    · rw [if_neg q, if_neg q]; exact r g
  · by_cases q : g = f
    · rw [q]; exact (keys_putF f y fs).1
    · refine (keys_putF f y fs).2 g (wi g fun z => hg ?_)
      show (if g = f then some u else mA g) = none
      rw [if_neg q]; exact z
/-- a new instance, tracked, without attributes -/
theorem Inv.made (I : Inv X pins σ H s) : Inv X pins σ (upd (upd H s.heap.objs.size (.own (s.heap.objs.size + 1))) (s.heap.objs.size + 1) (.ins C s.heap.objs.size []))
    { s with heap := (s.heap.push PySem.W.emptyDict).push (PySem.W.instObj C s.heap.objs.size) } := by
  have e1 : (s.heap.push PySem.W.emptyDict).get? s.heap.objs.size = some PySem.W.emptyDict := Heap.get?_push_size s.heap rfl
  have e2 : ((s.heap.push PySem.W.emptyDict).push (PySem.W.instObj C s.heap.objs.size)).get? (s.heap.objs.size + 1) = some (PySem.W.instObj C s.heap.objs.size) := by
    have := Heap.get?_push_size (s.heap.push PySem.W.emptyDict) (o := PySem.W.instObj C s.heap.objs.size) rfl
    rwa [Heap.size_push] at this
  have e3 : (s.heap.push PySem.W.emptyDict).Ns s.heap.objs.size (fun _ => none) := ⟨PySem.W.emptyDict, #[], _, e1, rfl, (fun e he => absurd he (by simp)), fun _ => rfl⟩
  have I1 := I.laid (a := s.heap.objs.size) (o := .own (s.heap.objs.size + 1)) (h' := s.heap.push PySem.W.emptyDict) (t' := s.toks) (fun b u q => Heap.get?_push_of_some _ q) (Nat.le_refl _) ⟨_, e1⟩
  refine I1.laid (a := s.heap.objs.size + 1) (o := .ins C s.heap.objs.size []) (t' := s.toks) (fun b u q => Heap.get?_push_of_some _ q) (Nat.le_of_eq (Heap.size_push _ _)) ?_
  have ne : s.heap.objs.size ≠ s.heap.objs.size + 1 := Nat.ne_of_lt (Nat.lt_succ_self _)
  refine ⟨by rw [upd_ne ne, upd_same], Nat.zero_le _, ne, e2, fun _ => none, (Heap.Ns1.of_empty e3).at fun o q => Heap.get?_push_of_some _ q, fun _ => True.intro, fun y hy => absurd rfl hy⟩
/-- e.f where nothing but the object is asked: through attributeBase (super) and the last hold -/
theorem attr_of {prog : Program} {w : World} {env : Env} {e : Expr} {f : Str} {pos : Pos} {s : Shared} {Q : Value → Shared → Prop} (hb : attributeBase e f env (eval e env) = eval e env)
    (h : wpAny (model prog w) A (eval e env) (fun o s₁ => wpAny (model prog w) A (getAttr o f true) Q E s₁) E s) : wpAny (model prog w) A (eval (.Attribute e f pos) env) Q E s :=
  Attribute_any_ h (by rw [arm_eval_Attribute, hb])
end
/-! ### readings and rules -/
/-- e.f, an attribute of the instance -/
def tFld (K : PySem.W.Frag) (ta : TE) (f : Str) : TE := fun σ H Q => ta σ H fun x H1 => ∃ a C dx fs v, x = .ref a ∧ H1 a = some (.ins C dx fs) ∧ Cls K C ∧ NoAttr K C f ∧ fs.lookup f = some v ∧ Q v H1
/-- e.f = value -/
def sFld (K : PySem.W.Frag) (ta tv : TE) (f : Str) : TS := fun D σ H => tv σ H fun y H1 => ta σ H1 fun x H2 => ∃ a C dx fs, x = .ref a ∧ H2 a = some (.ins C dx fs) ∧ Cls K C ∧ NoAttr K C f ∧ fs.length < 1000 ∧
  D.nx σ (upd H2 a (.ins C dx (putF f y fs)))
section
variable {X : Cx} {o e value : Expr} {f : Str} {pos pos' tpos : Pos} {ta tv : TE}
theorem pe_fld (he : PE X e ta) (hb : attributeBase e f X.env (eval e X.env) = eval e X.env) : PE X (.Attribute e f pos) (tFld X.K ta f) := by
  intro pins s σ H Q I h
  refine attr_of hb (thn (he pins s σ H _ I h) fun u s1 ⟨x, H1, I1, rx, a, C, dx, fs, v, ex, ea, c, n, l, q⟩ => ?_)
  subst ex
  obtain rfl : u = Value.ref a := rx
  exact getattr_ok I1 ea c n l fun u' s2 I2 ru => ⟨v, H1, I2, ru, q⟩
theorem ps_fld (ha : PE X o ta) (hv : PE X value tv) (hs : swapsWith value (some (.Attribute o f pos')) pos.line X.env = pure false) : PS X (.Assign [.Attribute o f pos'] value pos) (sFld X.K ta tv f) := by
  intro pins s σ H D I h
  refine plainObj_wpAny_Assign_Attribute (thn (hv pins s σ H _ I h) fun u s1 ⟨y, H1, I1, ry, q⟩ => thn (ha pins s1 σ H1 _ I1 q) fun ov s2 ⟨x, H2, I2, rx, a, C, dx, fs, ex, ea, c, n, l, q2⟩ => ?_) hs
  subst ex
  obtain rfl : ov = Value.ref a := rx
  exact setattr_ok I2 ea c n l ry fun s3 I3 => ⟨σ, _, I3, q2⟩
/-- what is between an instance and its method: the tree of a method call -/
theorem methcall_of {pl : Sem Bool} {m : Str} {apos : Pos} {args : List Expr} {pins : List (Addr × Obj)} {s : Shared} {σ : St} {H : Hp} {Q : Value → Shared → Prop} {te : TE} (he : PE X e te) (I : Inv X pins σ H s)
    (h : te σ H fun x H1 => ∃ a C dx fs g, x = .ref a ∧ H1 a = some (.ins C dx fs) ∧ Cls X.K C ∧ Meth X.K C m g ∧ fs.lookup m = none ∧
      ∀ s1, Inv X pins σ H1 s1 → wpAny (model X.prog X.w) X.A (callWith pos (.ref g) [.ref a] (backTo pos (starEach args X.env)) (backToKw pos (keywordEach [] X.env))) Q X.xe s1)
    (ht : eval (.Call (.Attribute e m apos) args [] pos) X.env = (do
      let ov ← eval e X.env
      standAt apos.atName
      let (f, first) ← holding [ov] (getMethod ov m pl)
      callWith pos f first (backTo pos (starEach args X.env)) (backToKw pos (keywordEach [] X.env)))) :
    wpAny (model X.prog X.w) X.A (eval (.Call (.Attribute e m apos) args [] pos) X.env) Q X.xe s := by
  refine PySem.W.methodCall_KW (pl := pl) (thn (he pins s σ H _ I h) fun u s1 ⟨x, H1, I1, rx, a, C, dx, fs, g, ex, ea, c, k, l, q⟩ => ?_) ht
  subst ex
  obtain rfl : u = Value.ref a := rx
  exact getmeth_ok I1 ea c k l (q s1 I1)
end
/-! ### isinstance -/
section
variable {X : Cx} {pins : List (Addr × Obj)} {σ : St} {H : Hp} {s : Shared} {A : Around} {E : Value → Shared → Prop} {Q : Value → Shared → Prop} {c : Value} {b : Bool}
end
end L2
namespace L2
open PySem PySem.Spec PyProof.Rows
/-! ### room -/
structure Room (k : Nat) (A : Around) : Prop where
  hd : A.handled = none
  dp : A.depth + 3 * k + 5 < recursionLimit
  un : A.units + 16 * k + 200 < cLine
theorem Room.mono {j k : Nat} {A : Around} (r : Room k A) (h : j ≤ k) : Room j A := ⟨r.hd, by have := r.dp; omega, by have := r.un; omega⟩
theorem Room.deeper {k : Nat} {A : Around} (r : Room (k + 1) A) (env : Env) : Room k (A.deeper env) :=
  ⟨r.hd, by have := r.dp; show A.depth + 1 + 3 * k + 5 < _; omega, by have := r.un; show A.units + 3 + 16 * k + 200 < _; omega⟩
theorem make_depth {A : Around} {C : Addr} {us : List Value} {kw : List (Str × Value)} : (A.under (.builtin "type.__call__" ⟨.ref C :: us, kw⟩)).depth = A.depth + 1 := by
  first | rfl | simp [Around.under, Code.weight, Code.isCreation, Code.isGuard, Code.isCaller, Code.frames, Code.isFrame, guardIds]
theorem make_units {A : Around} {C : Addr} {us : List Value} {kw : List (Str × Value)} : (A.under (.builtin "type.__call__" ⟨.ref C :: us, kw⟩)).units = A.units + 1 := by
  first | rfl | simp [Around.under, Code.cUnits, Code.frames, Code.isFrame]
theorem Room.make {k : Nat} {A : Around} (r : Room (k + 1) A) (C : Addr) (us : List Value) (kw : List (Str × Value)) : Room k (A.under (.builtin "type.__call__" ⟨.ref C :: us, kw⟩)) :=
  ⟨r.hd, by have := r.dp; rw [make_depth]; omega, by have := r.un; rw [make_units]; omega⟩
theorem Room.depth {k : Nat} {A : Around} (r : Room k A) : A.depth < recursionLimit := by have := r.dp; omega
/-! ### argument lists and displays -/
def tNil : TA := fun _ H Q => Q [] H
def tCons (ta : TE) (tr : TA) : TA := fun σ H Q => ta σ H fun x H1 => tr σ H1 fun xs H2 => Q (x :: xs) H2
section
variable {X : Cx} {e : Expr} {es : List Expr} {te : TE} {t : TA} {pos : Pos}
theorem pa_nil : PA X [] tNil := fun _ _ _ _ H Q I h => Calls.spliced_nil ⟨[], H, I, .nil, h⟩
theorem pa_cons (ha : PE X e te) (hr : PA X es t) (hs : starEach (e :: es) X.env = (false, eval e X.env) :: starEach es X.env := by rfl) : PA X (e :: es) (tCons te t) := by
  intro pos pins s σ H Q I h
  rw [hs]
  show wpAny _ _ (spliced ((false, eval e X.env) :: backTo pos (starEach es X.env))) _ _ s
  refine Calls.spliced_cons (thn (ha pins s σ H _ I h) fun u s1 ⟨x, H1, I1, r1, q1⟩ => ?_)
  exact thn (hr pos pins s1 σ H1 _ I1 q1) fun us s2 ⟨xs, H2, I2, r2, q2⟩ => ⟨x :: xs, H2, I2, .cons r1 r2, q2⟩
/-- a tuple, a list of written items -/
def tTup (t : TA) : TE := fun σ H Q => t σ H fun xs H1 => xs.length ≤ sizeLine ∧ ∀ p, H1 p = none → Q (.ref p) (upd H1 p (.tup xs))
def tLst (t : TA) : TE := fun σ H Q => t σ H fun xs H1 => xs.length ≤ sizeLine ∧ ∀ p, H1 p = none → Q (.ref p) (upd H1 p (.lst xs))
theorem pe_tup {x1} (h : PA X es t) : PE X (.Tuple es x1 pos) (tTup t) := by
  intro pins s σ H Q I hq
  refine wpAny_Tuple_spliced (thn (h pos pins s σ H _ I hq) fun us s1 ⟨xs, H1, I1, r, z, q⟩ => ⟨by rw [← r.length]; exact z, ?_⟩)
  have hf : H1 s1.heap.objs.size = none := I1.hok.fresh (Nat.le_refl _)
  refine ⟨.ref s1.heap.objs.size, upd H1 s1.heap.objs.size (.tup xs), I1.laid (t' := s1.toks) (fun b u e => Heap.get?_push_of_some _ e) (Nat.le_refl _) ?_, rfl, q _ hf⟩
  exact ⟨z, us, r, ⟨_, Heap.get?_push_size _ rfl, rfl, _, rfl⟩⟩
theorem pe_lst (h : PA X es t) : PE X (.List es pos) (tLst t) := by
  intro pins s σ H Q I hq
  refine wpAny_List_spliced (thn (h pos pins s σ H _ I hq) fun us s1 ⟨xs, H1, I1, r, z, q⟩ => ⟨by rw [← r.length]; exact z, ?_⟩)
  have hf : H1 s1.heap.objs.size = none := I1.hok.fresh (Nat.le_refl _)
  refine ⟨.ref s1.heap.objs.size, upd H1 s1.heap.objs.size (.lst xs), I1.laid (t' := s1.toks) (fun b u e => Heap.get?_push_of_some _ e) (Nat.le_refl _) ?_, rfl, q _ hf⟩
  exact ⟨z, us, 0, r, Heap.get?_push_size _ rfl⟩
end
/-! ### what a def promises -/
/-- a def's promise: the bound arguments in the parameters' order, the heap, the wanted end, the wanted exception -/
abbrev Sp := List V → Hp → VK → XK → Prop
/-- how an exception lies behind a call (file 08 gives it): the callers' frames, abstract heap and state ahead of the call, the wish, the exception, the state -/
abbrev CXT := List Env → Hp → Shared → XK → Value → Shared → Prop
/-- the state at a call -/
structure Env0 (P : Program) (w : World) (K : PySem.W.Frag) (mg : Str → Option Value) (base : Heap) (A : Around) (outer : List Env) (s : Shared) (H : Hp) : Prop where
  frames : A.frames = some outer
  mod : Mod K mg base
  bs : ∀ b o, base.get? b = some o → s.heap.get? b = some o ∧ H b = none
  bsz : base.objs.size ≤ s.heap.objs.size
  funs : s.heap.FunFrames base outer
  frf : ∀ b ∈ frs outer, H b = none
  hok : HOk P w H s.heap
  bare : AllBare s.gens
/-- a call's end -/
def CE (outer : List Env) (P : Program) (w : World) (H : Hp) (s : Shared) (Q : VK) (u : Value) (s' : Shared) : Prop :=
  ∃ v H', s'.os = s.os ∧ AllBare s'.gens ∧ Un (frs outer) [] H H' s.heap s'.heap ∧ HOk P w H' s'.heap ∧ RelV v u ∧ Q v H'
def CR (CX : CXT) (outer : List Env) (P : Program) (w : World) (H : Hp) (s : Shared) (Q : VK) (E : XK) (r : Result) (s' : Shared) : Prop :=
  match r with
  | .ok (.ret u) => CE outer P w H s Q u s'
  | .ok _ => False
  | .error e => CX outer H s E e s'
structure FnOk (P : Program) (w : World) (K : PySem.W.Frag) (mg : Str → Option Value) (base : Heap) (CX : CXT) (k : Nat) (f : Addr) (fd : FuncData) (ps : List Str) (sp : Sp) : Prop where
  len : ∀ vs H Q E, sp vs H Q E → vs.length = ps.length
  run : ∀ (A : Around) (outer : List Env) (s : Shared) (H : Hp) (args : Args) (us : List Value) (vs : List V) (Q : VK) (E : XK), Room k A → Env0 P w K mg base A outer s H → BindsTo s fd args (ps.zip us) → Vals vs us → sp vs H Q E →
    codeAny (model P w) A (.call (.ref f) args) (CR CX outer P w H s Q E) s
theorem Env0.make {P : Program} {w : World} {K : PySem.W.Frag} {mg : Str → Option Value} {base : Heap} {A : Around} {outer : List Env} {s : Shared} {H : Hp} (e : Env0 P w K mg base A outer s H) (C : Addr) (us : List Value) (kw : List (Str × Value)) :
    Env0 P w K mg base (A.under (.builtin "type.__call__" ⟨.ref C :: us, kw⟩)) outer s H := ⟨by first | exact e.frames | (simpa [Around.under, Code.envs, Code.isFrame, pushEnvs] using e.frames), e.mod, e.bs, e.bsz, e.funs, e.frf, e.hok, e.bare⟩
section
variable {X : Cx} {pins : List (Addr × Obj)} {σ : St} {H : Hp} {s s' : Shared}
/-- from a body: what a callee wants -/
theorem Inv.env0 (I : Inv X pins σ H s) : Env0 X.prog X.w X.K X.mg X.base X.A X.stack s H :=
  ⟨I.ok.frames, I.ok.mod, I.bs, Nat.le_trans I.ok.bsz I.sz, I.stack, I.stkFree, I.hok, I.bare⟩
/-- behind a call -/
theorem Inv.after {Q : VK} {u : Value} (I : Inv X pins σ H s) (h : CE X.stack X.prog X.w H s Q u s') : EP X pins σ Q u s' := by
  obtain ⟨v, H', os, bare, un, hok, r, q⟩ := h
  obtain ⟨hh, g, d, t, os'⟩ := s'
  obtain rfl : os' = s.os := os
  exact ⟨v, H', I.call (h' := hh) (g' := g) (d' := d) (t' := t) (ch := []) un hok bare (fun b z => absurd z (by simp)), r, q⟩
end
/-! ### calls -/
/-- f(..): the written arguments, then the defaults dvs; E: what is wanted of an exception -/
def tCall (sp : Sp) (dvs : List V) (E : XK) (t : TA) : TE := fun σ H Q => t σ H fun vs H1 => sp (vs ++ dvs) H1 Q E
/-- o.m(..) of an instance of the class at C -/
def tMeth (C : Addr) (m : Str) (sp : Sp) (dvs : List V) (E : XK) (ta : TE) (t : TA) : TE := fun σ H Q => ta σ H fun x H1 => ∃ a dx fs, x = .ref a ∧ H1 a = some (.ins C dx fs) ∧ fs.lookup m = none ∧
  t σ H1 fun vs H2 => sp (x :: (vs ++ dvs)) H2 Q E
/-- C(..): a new instance and its dict, then __init__ -/
def tMake (C : Addr) (sp : Sp) (dvs : List V) (E : XK) (t : TA) : TE := fun σ H Q => t σ H fun vs H1 => ∀ x dx, H1 x = none → H1 dx = none → dx ≠ x →
  sp (.ref x :: (vs ++ dvs)) (upd (upd H1 dx (.own x)) x (.ins C dx [])) (fun v H2 => v = .non ∧ Q (.ref x) H2) E
/-- how the parameters are bound: us the positional arguments, kw the keywords' values by name, ds the defaults that fill up -/
def Binds (K : PySem.W.Frag) (fd : FuncData) (ps : List Str) (ds : List Value) : Prop :=
  ∀ (s : Shared) (us : List Value), K.In s.heap → (us ++ ds).length = ps.length → BindsTo s fd ⟨us, []⟩ (ps.zip (us ++ ds))
/-- every parameter is given -/
theorem Binds.all {K : PySem.W.Frag} {fd : FuncData} {ps : List Str} (h : ∀ us : List Value, us.length = ps.length → bindArgs fd ⟨us, []⟩ = pure (ps.zip us)) : Binds K fd ps [] := fun s us _ hl => by
  rw [List.append_nil] at hl ⊢
  exact .of_eq (h us hl)
/-- an exception of a callee reaches what this body wants of exceptions -/
def Passes (CX : CXT) (X : Cx) (E : XK) : Prop := ∀ (pins : List (Addr × Obj)) (σ : St) (H : Hp) (s : Shared) (e : Value) (s' : Shared), Inv X pins σ H s → CX X.stack H s E e s' → X.xe e s'
section
variable {X : Cx} {CX : CXT} {k : Nat} {f C : Addr} {fd : FuncData} {ps : List Str} {sp : Sp} {dvs : List V} {ds : List Value} {E : XK} {x m : Str} {p pos apos : Pos} {e o : Expr} {es : List Expr} {ta : TE} {t : TA}
/-- the callee runs -/
theorem run_fn {pins : List (Addr × Obj)} {σ : St} {H : Hp} {s : Shared} {Q : VK} {us : List Value} {vs : List V} (F : FnOk X.prog X.w X.K X.mg X.base CX k f fd ps sp) (hr : Room k X.A) (hb : Binds X.K fd ps ds) (hd : Vals dvs ds) (hx : Passes CX X E)
    (I : Inv X pins σ H s) (r : Vals vs us) (h : sp (vs ++ dvs) H Q E) : wpAny (model X.prog X.w) X.A (call (.ref f) us) (EP X pins σ Q) X.xe s := by
  have r2 : Vals (vs ++ dvs) (us ++ ds) := r.append hd
  have hl : (us ++ ds).length = ps.length := by rw [← r2.length]; exact F.len _ _ _ _ h
  refine wpAny_call (codeAny_mono (F.run X.A X.stack s H ⟨us, []⟩ (us ++ ds) (vs ++ dvs) Q E hr I.env0 (hb s us I.kIn hl) r2 h) fun r s' hq => ?_)
  cases r with
  | error e => exact hx pins σ H s e s' I hq
  | ok fl =>
    cases fl with
    | ret u => exact I.after hq
    | next => exact False.elim hq
    | brk => exact False.elim hq
    | cont => exact False.elim hq
theorem pe_call (F : FnOk X.prog X.w X.K X.mg X.base CX k f fd ps sp) (hr : Room k X.A) (hg : Gl X x) (hm : X.mg x = some (.ref f)) (hk : PySem.W.keepIn X.K (.ref f) = true) (hb : Binds X.K fd ps ds) (hd : Vals dvs ds) (hx : Passes CX X E)
    (ha : PA X (e :: es) t) (hdb : (x == ("__debug__" : Str)) = false := by decide) (he : starEach (e :: es) X.env = (false, eval e X.env) :: starEach es X.env := by rfl) (hpl : (backTo pos (starEach es X.env)).any (·.1) = false := by rfl) :
    PE X (.Call (.Name x p) (e :: es) [] pos) (tCall sp dvs E t) := by
  intro pins s σ H Q I h
  refine wpAny_Call_Name_kw (ld_glob I hg hm ?_ hdb)
  refine PySem.W.callWith_K (h₀ := X.base) I.ok.mod.kin hk (thn (ha pos pins s σ H _ I h) fun us s1 ⟨vs, H1, I1, r, q⟩ => ⟨I1.kIn, ?_⟩) he hpl
  exact run_fn F hr hb hd hx I1 r q
/-- o.m(e, ..) -/
theorem pe_meth {pl : Sem Bool} (he : PE X o ta) (c : Cls X.K C) (hm : Meth X.K C m f) (F : FnOk X.prog X.w X.K X.mg X.base CX k f fd ps sp) (hr : Room k X.A) (hb : Binds X.K fd ps ds) (hd : Vals dvs ds) (hx : Passes CX X E) (ha : PA X (e :: es) t)
    (hst : starEach (e :: es) X.env = (false, eval e X.env) :: starEach es X.env := by rfl) (hpl : (backTo pos (starEach es X.env)).any (·.1) = false := by rfl)
    (ht : eval (.Call (.Attribute o m apos) (e :: es) [] pos) X.env = (do
      let ov ← eval o X.env
      standAt apos.atName
      let (f, first) ← holding [ov] (getMethod ov m pl)
      callWith pos f first (backTo pos (starEach (e :: es) X.env)) (backToKw pos (keywordEach [] X.env))) := by rfl) :
    PE X (.Call (.Attribute o m apos) (e :: es) [] pos) (tMeth C m sp dvs E ta t) := by
  intro pins s σ H Q I h
  refine PySem.W.methodCall_KW (pl := pl) (thn (he pins s σ H _ I h) fun u s1 ⟨x, H1, I1, rx, a, dx, fs, ex, ea, l, q⟩ => ?_) ht
  subst ex
  obtain rfl : u = Value.ref a := rx
  refine getmeth_ok I1 ea c hm l ?_
  refine PySem.W.callWith_K (first := [.ref a]) (h₀ := X.base) I.ok.mod.kin hm.kp (thn (ha pos pins s1 σ H1 _ I1 q) fun us s2 ⟨vs, H2, I2, r, q2⟩ => ⟨I2.kIn, ?_⟩) hst hpl
  exact run_fn (us := .ref a :: us) (vs := .ref a :: vs) F hr hb hd hx I2 (.cons rfl r) q2
/-- o.m() -/
theorem pe_meth0 {pl : Sem Bool} (he : PE X o ta) (c : Cls X.K C) (hm : Meth X.K C m f) (F : FnOk X.prog X.w X.K X.mg X.base CX k f fd ps sp) (hr : Room k X.A) (hb : Binds X.K fd ps ds) (hd : Vals dvs ds) (hx : Passes CX X E)
    (ht : eval (.Call (.Attribute o m apos) [] [] pos) X.env = (do
      let ov ← eval o X.env
      standAt apos.atName
      let (f, first) ← holding [ov] (getMethod ov m pl)
      callWith pos f first (backTo pos (starEach [] X.env)) (backToKw pos (keywordEach [] X.env))) := by rfl) :
    PE X (.Call (.Attribute o m apos) [] [] pos) (tMeth C m sp dvs E ta tNil) := by
  intro pins s σ H Q I h
  refine PySem.W.methodCall_KW (pl := pl) (thn (he pins s σ H _ I h) fun u s1 ⟨x, H1, I1, rx, a, dx, fs, ex, ea, l, q⟩ => ?_) ht
  subst ex
  obtain rfl : u = Value.ref a := rx
  refine getmeth_ok I1 ea c hm l ?_
  exact PySem.W.callWith_K0 (first := [.ref a]) I1.kIn hm.kp (run_fn (us := [.ref a]) (vs := [.ref a]) F hr hb hd hx I1 (.cons rfl .nil) q)
/-- what a class must have to be made -/
structure Mk (K : PySem.W.Frag) (C f : Addr) : Prop where
  makes : PySem.W.makesIn K C = true
  init : PySem.W.findIn K (.ref C) "__init__" = some (some (.ref f))
  fn : PySem.W.isFn K (.ref f) = true
  kp : PySem.W.keepIn K (.ref C) = true
theorem run_make {pins : List (Addr × Obj)} {σ : St} {H : Hp} {s : Shared} {Q : VK} {us : List Value} {vs : List V} (M : Mk X.K C f) (F : FnOk X.prog X.w X.K X.mg X.base CX k f fd ps sp) (hr : Room (k + 1) X.A) (hb : Binds X.K fd ps ds) (hd : Vals dvs ds)
    (hx : Passes CX X E) (I : Inv X pins σ H s) (r : Vals vs us)
    (h : ∀ x dx, H x = none → H dx = none → dx ≠ x → sp (.ref x :: (vs ++ dvs)) (upd (upd H dx (.own x)) x (.ins C dx [])) (fun v H2 => v = .non ∧ Q (.ref x) H2) E) :
    wpAny (model X.prog X.w) X.A (call (.ref C) us) (EP X pins σ Q) X.xe s := by
  have hq := h (s.heap.objs.size + 1) s.heap.objs.size (I.hok.fresh (Nat.le_succ _)) (I.hok.fresh (Nat.le_refl _)) (Nat.ne_of_lt (Nat.lt_succ_self _))
  have I2 := Inv.made (C := C) I
  have r2 : Vals (V.ref (s.heap.objs.size + 1) :: (vs ++ dvs)) (Value.ref (s.heap.objs.size + 1) :: (us ++ ds)) := .cons rfl (r.append hd)
  have hl : (Value.ref (s.heap.objs.size + 1) :: us ++ ds).length = ps.length := by
    have e := r2.length
    rw [F.len _ _ _ _ hq] at e
    exact e.symm
  refine wpAny_call (make_map (f := f) I.kIn M.makes M.init (beq_iff_eq.mp M.fn) (codeAny_mono (F.run _ X.stack _ _ ⟨Value.ref (s.heap.objs.size + 1) :: us, []⟩ (Value.ref (s.heap.objs.size + 1) :: (us ++ ds)) _ _ E (hr.make C us [])
    (I2.env0.make C us []) (hb _ (Value.ref (s.heap.objs.size + 1) :: us) I2.kIn hl) r2 hq) fun r s' hq' => ?_))
  cases r with
  | error e => exact hx pins σ _ _ e s' I2 hq'
  | ok fl =>
    cases fl with
    | ret u =>
      obtain ⟨v, H', I3, rv, ev, q3⟩ := I2.after hq'
      subst ev
      exact ⟨rv, ⟨V.ref (s.heap.objs.size + 1), H', I3, rfl, q3⟩⟩
    | next => exact False.elim hq'
    | brk => exact False.elim hq'
    | cont => exact False.elim hq'
theorem pe_make (M : Mk X.K C f) (F : FnOk X.prog X.w X.K X.mg X.base CX k f fd ps sp) (hr : Room (k + 1) X.A) (hg : Gl X x) (hm : X.mg x = some (.ref C)) (hb : Binds X.K fd ps ds) (hd : Vals dvs ds) (hx : Passes CX X E)
    (ha : PA X (e :: es) t) (hdb : (x == ("__debug__" : Str)) = false := by decide) (he : starEach (e :: es) X.env = (false, eval e X.env) :: starEach es X.env := by rfl) (hpl : (backTo pos (starEach es X.env)).any (·.1) = false := by rfl) :
    PE X (.Call (.Name x p) (e :: es) [] pos) (tMake C sp dvs E t) := by
  intro pins s σ H Q I h
  refine wpAny_Call_Name_kw (ld_glob I hg hm ?_ hdb)
  refine PySem.W.callWith_K (h₀ := X.base) I.ok.mod.kin M.kp (thn (ha pos pins s σ H _ I h) fun us s1 ⟨vs, H1, I1, r, q⟩ => ⟨I1.kIn, ?_⟩) he hpl
  exact run_make M F hr hb hd hx I1 r q
theorem pe_make0 (M : Mk X.K C f) (F : FnOk X.prog X.w X.K X.mg X.base CX k f fd ps sp) (hr : Room (k + 1) X.A) (hg : Gl X x) (hm : X.mg x = some (.ref C)) (hb : Binds X.K fd ps ds) (hd : Vals dvs ds) (hx : Passes CX X E)
    (hdb : (x == ("__debug__" : Str)) = false := by decide) : PE X (.Call (.Name x p) [] [] pos) (tMake C sp dvs E tNil) := by
  intro pins s σ H Q I h
  refine wpAny_Call_Name_kw (ld_glob I hg hm ?_ hdb)
  exact PySem.W.callWith_K0 I.kIn M.kp (run_make (us := []) M F hr hb hd hx I .nil h)
end
/-! ### keywords -/
section
variable {X : Cx} {CX : CXT} {k : Nat} {f C : Addr} {fd : FuncData} {ps ks : List Str} {sp : Sp} {E : XK} {x m : Str} {p pos apos kpos : Pos} {e o : Expr} {es : List Expr} {kws : List Keyword} {te ta : TE} {t tk : TA} {nm : Option Str}
variable {g : List Value → List Value → List Value} {gV : List V → List V → List V}
end
/-! ### a def's body keeps its promise -/
/-- names: the parameters first -/
structure FnScope (N P : List Str) (sc : Scope) : Prop where
  kind : sc.kind = .function
  co : sc.isCoroutine = false
  gen : sc.isGenerator = false
  nd : N.Nodup
  pre : N.take P.length = P
  par : ∀ x ∈ P, sc.names.lookup x = some .local ∨ sc.names.lookup x = some .cell
  nofree : ∀ y ∈ sc.names, y.2 ≠ .free
theorem bindL_out {kindOf : Str → Option NameKind} {x : Str} : ∀ {binds : List (Str × Value)} {m : Str → Option Value}, (∀ v, (x, v) ∉ binds) → bindL kindOf binds m x = m x
  | [], _, _ => rfl
  | (n, v) :: r, m, h => by
    unfold bindL
    rw [bindL_out fun w hw => h w (List.mem_cons_of_mem _ hw)]
    split
    · have : x ≠ n := by rintro rfl; exact h v List.mem_cons_self
      simp [this]
    · rfl
theorem bindC_out {kindOf : Str → Option NameKind} {x : Str} : ∀ {binds : List (Str × Value)} {m : Str → Option Value}, (∀ v, (x, v) ∉ binds) → bindC kindOf binds m x = m x
  | [], _, _ => rfl
  | (n, v) :: r, m, h => by
    unfold bindC
    rw [bindC_out fun w hw => h w (List.mem_cons_of_mem _ hw)]
    split
    · rfl
    · have : x ≠ n := by rintro rfl; exact h v List.mem_cons_self
      simp [this]
theorem bindL_get {kindOf : Str → Option NameKind} {x : Str} {v : Value} : ∀ {P : List Str} {vs : List Value} {i : Nat} {m : Str → Option Value}, P.Nodup → P[i]? = some x → vs[i]? = some v → kindOf x = some .local →
    bindL kindOf (P.zip vs) m x = some v
  | [], _, _, _, _, h, _, _ => by simp at h
  | _ :: _, [], _, _, _, _, h, _ => by simp at h
  | p :: P, w :: vs, 0, m, nd, h1, h2, hk => by
    simp at h1 h2; subst h1; subst h2
    show bindL kindOf ((p, w) :: P.zip vs) m p = _
    unfold bindL
    rw [bindL_out fun v hv => (List.nodup_cons.mp nd).1 (List.of_mem_zip hv).1, if_pos hk]
    simp
  | p :: P, w :: vs, i + 1, m, nd, h1, h2, hk => by
    show bindL kindOf ((p, w) :: P.zip vs) m x = _
    unfold bindL
    exact bindL_get (i := i) (List.nodup_cons.mp nd).2 (by simpa using h1) (by simpa using h2) hk
theorem bindC_get {kindOf : Str → Option NameKind} {x : Str} {v : Value} : ∀ {P : List Str} {vs : List Value} {i : Nat} {m : Str → Option Value}, P.Nodup → P[i]? = some x → vs[i]? = some v → kindOf x ≠ some .local →
    bindC kindOf (P.zip vs) m x = some v
  | [], _, _, _, _, h, _, _ => by simp at h
  | _ :: _, [], _, _, _, _, h, _ => by simp at h
  | p :: P, w :: vs, 0, m, nd, h1, h2, hk => by
    simp at h1 h2; subst h1; subst h2
    show bindC kindOf ((p, w) :: P.zip vs) m p = _
    unfold bindC
    rw [bindC_out fun v hv => (List.nodup_cons.mp nd).1 (List.of_mem_zip hv).1, if_neg hk]
    simp
  | p :: P, w :: vs, i + 1, m, nd, h1, h2, hk => by
    show bindC kindOf ((p, w) :: P.zip vs) m x = _
    unfold bindC
    exact bindC_get (i := i) (List.nodup_cons.mp nd).2 (by simpa using h1) (by simpa using h2) hk
/-- the names' values at the entry -/
def start (N : List Str) (vs : List V) : St := vs.map some ++ List.replicate (N.length - vs.length) none
/-- the context of a def's body, at its entry; an exception leaves the frame, then lies as CX says -/
def cxOf (CX : CXT) (P : Program) (w : World) (K : PySem.W.Frag) (mg : Str → Option Value) (base : Heap) (N : List Str) (qual : Str) (scope : Scope) (f : Addr) (cd : Value) (A : Around) (outer : List Env) (s : Shared) (H : Hp) (E : XK) : Cx where
  prog := P
  w := w
  K := K
  mg := mg
  base := base
  A := A.deeper (envOfC qual scope s.heap.objs.size f cd)
  N := N
  s_0 := s
  H_0 := H
  env := envOfC qual scope s.heap.objs.size f cd
  outer := outer
  stack := envOfC qual scope s.heap.objs.size f cd :: outer
  ex := []
  calm := true
  fn := fun _ => true
  pn := []
  xe := fun e s' => wpAny (model P w) (A.deeper (envOfC qual scope s.heap.objs.size f cd)) (leaving (envOfC qual scope s.heap.objs.size f cd) e) (fun _ s'' => CX outer H s E e s'') (fun e' s'' => CX outer H s E e' s'') s'
theorem cell_has {sc : Scope} {n : Nat} {x : Str} (h : sc.names.lookup x = some .cell) : ∃ c, (cellsFrom n sc.names []).lookup x = some c := by
  have q := PySem.W.cellsFrom_some sc.names n [] (.inl h)
  exact Option.isSome_iff_exists.mp q
theorem inv_start {CX : CXT} {P : Program} {w : World} {K : PySem.W.Frag} {mg : Str → Option Value} {base : Heap} {N ps : List Str} {qual : Str} {scope : Scope} {f : Addr} {cd : Value} {A : Around} {outer : List Env} {s s1 : Shared} {H : Hp} {E : XK} {us : List Value} {vs : List V}
    (S : FnScope N ps scope) (hd : A.handled = none) (e0 : Env0 P w K mg base A outer s H) (hl : vs.length = ps.length) (r : Vals vs us)
    (x : InCallC s s.heap.objs.size (bindL (envOfC qual scope s.heap.objs.size f cd).kindOf (ps.zip us) fun _ => none) (cellsFrom (s.heap.objs.size + 1) scope.names []) (bindC (envOfC qual scope s.heap.objs.size f cd).kindOf (ps.zip us) fun _ => none) s1) :
    Inv (cxOf CX P w K mg base N qual scope f cd A outer s H E) [] (start N vs) H s1 := by
  have hpl : ps.length ≤ N.length := by have := congrArg List.length S.pre; rw [List.length_take] at this; omega
  obtain ⟨h1, tk, rfl, hk⟩ := x.done
  have noA : ∀ b : Addr, b ∉ (cxOf CX P w K mg base N qual scope f cd A outer s H E).ex := fun b z => absurd (show b ∈ ([] : List Addr) from z) (by simp)
  refine ⟨⟨e0.mod, S.kind, rfl, rfl, Nat.le_refl _, fun y z c h1 h2 => ?_, fun y hy => ?_, fun y c _ h => ?_, fun _ => hd, Around.frames_deeper e0.frames, .inr ⟨rfl, rfl⟩, fun b z => absurd z (noA b), e0.bs, e0.bsz, fun b _ _ => noA b, fun b z => absurd z (noA b), e0.funs, e0.frf⟩,
    rfl, e0.bare, Un.kept hk, ⟨_, x.toInCall.ns, fun i y v h1 h2 h3 => ?_⟩, fun y c h => ⟨_, x.cell y c h⟩, e0.hok.fresh (Nat.le_refl _), fun y c h => ?_, fun p hp => absurd (show p ∈ ([] : List (Addr × Obj)) from hp) (by simp), e0.hok.kept hk, ?_⟩
  · exact name_of_addr x.apart (PySem.mem_of_lookup h1) (PySem.mem_of_lookup h2)
  · have hy : scope.names.lookup y = some .cell ∨ scope.names.lookup y = some .free := hy
    rcases hy with hy | hy
    · exact cell_has hy
    · exact absurd rfl (S.nofree _ (PySem.mem_of_lookup hy))
  · exact Nat.le_of_lt (x.above y c (PySem.mem_of_lookup h))
  · have hi : i < vs.length := by
      unfold start at h2
      by_cases hi : i < vs.length
      · exact hi
      · rw [List.getElem?_append_right (by simpa using hi)] at h2
        rw [List.getElem?_replicate] at h2
        split at h2 <;> cases h2
    have ha : vs[i]? = some v := by
      unfold start at h2
      rw [List.getElem?_append_left (by simpa using hi), List.getElem?_map] at h2
      cases e : vs[i]? with
      | none => rw [e] at h2; cases h2
      | some a => rw [e] at h2; cases h2; rfl
    obtain ⟨u, hu, rv⟩ := r.get ha
    have hp : ps[i]? = some y := by
      rw [← S.pre, List.getElem?_take_of_lt (by omega)]; exact h1
    have ndP : ps.Nodup := by rw [← S.pre]; exact S.nd.sublist (List.take_sublist _ _)
    refine ⟨u, rv, ?_⟩
    rcases S.par y (List.mem_of_getElem? hp) with k | k
    · exact .inl ⟨k, bindL_get ndP hp hu k⟩
    · obtain ⟨c, e⟩ := cell_has (n := s.heap.objs.size + 1) k
      refine .inr ⟨.inl k, c, e, ?_⟩
      have q := x.cell y c e
      rw [bindC_get ndP hp hu (by show scope.names.lookup y ≠ _; rw [k]; decide)] at q
      exact q
  · exact e0.hok.fresh (Nat.le_of_lt (x.above y c (PySem.mem_of_lookup h)))
  · unfold start
    show _ = N.length
    rw [List.length_append, List.length_map, List.length_replicate]
    omega
/-- THE RULE: a def (or a method) of the text, by its body. The body's reading t is chosen for each entry; it is run at the parameters' values -/
theorem fn_of {CX : CXT} {P : Program} {w : World} {K : PySem.W.Frag} {mg : Str → Option Value} {base : Heap} {k : Nat} {f : Addr} {name qual : Str} {params : Arguments} {body : List Stmt} {scope : Scope} {dV kV doc pm cdv ct oc : Value} {an od : Option Addr}
    {osl : Array (Option Value)} {N ps : List Str} {sp : Sp} (lk : K.lookup f = some ⟨oc, od, .func (PySem.W.fnOf name qual params body scope dV kV doc pm an cdv ct), osl⟩) (hcd : PySem.W.codeIn K cdv qual = true) (S : FnScope N ps scope)
    (len : ∀ vs H Q E, sp vs H Q E → vs.length = ps.length)
    (hbody : ∀ (A : Around) (outer : List Env) (s : Shared) (H : Hp) (vs : List V) (Q : VK) (E : XK), Room k (A.deeper (envOfC qual scope s.heap.objs.size f cdv)) → sp vs H Q E →
      ∃ t, PSs (cxOf CX P w K mg base N qual scope f cdv A outer s H E) body t ∧ t { nx := fun _ H' => Q .non H', rt := Q } (start N vs) H) :
    FnOk P w K mg base CX (k + 1) f (PySem.W.fnOf name qual params body scope dV kV doc pm an cdv ct) ps sp := by
  refine ⟨len, fun A outer s H args us vs Q E hr e0 hb r hsp => ?_⟩
  have hl := len _ _ _ _ hsp
  have KX : K.In s.heap := e0.mod.kin.keeps fun b o e => (e0.bs b o e).1
  have lim : s.heap.NoLimit := e0.mod.nolimit.keeps fun b o e => (e0.bs b o e).1
  have hkind : ∀ y ∈ ps.zip us, scope.names.lookup y.1 = some .local ∨ (scope.names.lookup y.1 = some .cell ∧ ((cellsFrom (s.heap.objs.size + 1) scope.names []).lookup y.1).isSome = true) := fun ⟨n, v⟩ hy => by
    rcases S.par n (List.of_mem_zip hy).1 with q | q
    · exact .inl q
    · exact .inr ⟨q, PySem.W.cellsFrom_some _ _ _ (.inl q)⟩
  refine codeAny_call_function hr.depth (KX _ _ lk) rfl S.co S.gen rfl (PySem.W.codeRec_of KX hcd) (hb _ _ _ _ ?_)
  refine wpAny_newFunctionEnv_cells S.kind hkind fun env he s1 x => ?_
  subst he
  refine ⟨lim.keeps x.toInCall.keep, codeAny_func ?_⟩
  obtain ⟨t, ht, hq⟩ := hbody A outer s H vs Q E (hr.deeper _) hsp
  have I : Inv (cxOf CX P w K mg base N qual scope f cdv A outer s H E) [] (start N vs) H s1 := inv_start S hr.hd e0 hl r x
  refine wpAny_mono (ht [] s1 (start N vs) H _ I hq) (fun fl s' hs => ?_) fun e s' hs => hs
  have fin : ∀ {σ' : St} {H' : Hp} {v : V} {u : Value}, Inv (cxOf CX P w K mg base N qual scope f cdv A outer s H E) [] σ' H' s' → RelV v u → Q v H' → CE outer P w H s Q u s' :=
    fun {σ' H' v u} J rv q => ⟨v, H', J.os, J.bare, J.base, J.hok, rv, q⟩
  cases fl with
  | ret u =>
    obtain ⟨v, σ', H', J, rv, q⟩ := hs
    exact fin J rv q
  | next =>
    obtain ⟨σ', H', J, q⟩ := hs
    exact fin (v := V.non) (u := Value.none) J rfl q
  | brk =>
    obtain ⟨_, _, _, q⟩ := hs
    exact False.elim q
  | cont =>
    obtain ⟨_, _, _, q⟩ := hs
    exact False.elim q
end L2
namespace L2
open PySem PySem.Spec PyProof.Rows
section
variable {X : Cx} {x : Str} {p pos : Pos} {e : Expr} {es : List Expr} {t : TA} {id T : String} {r : List V → Hp → VK → Prop}
def tCB (r : List V → Hp → VK → Prop) (t : TA) : TE := fun σ H Q => t σ H fun vs H1 => r vs H1 Q
/-- f(e, ..), f a built-in function -/
theorem pe_callB (hc : CallR X (.builtin id) r) (hg : Gl X x) (hm : X.mg x = none) (hv : bootBuiltins x = some (.builtin id)) (ha : PA X (e :: es) t) (hn : x ≠ "__name__" := by decide) (hdb : (x == ("__debug__" : Str)) = false := by decide)
    (he : starEach (e :: es) X.env = (false, eval e X.env) :: starEach es X.env := by rfl) (hpl : (backTo pos (starEach es X.env)).any (·.1) = false := by rfl) : PE X (.Call (.Name x p) (e :: es) [] pos) (tCB r t) := by
  intro pins s σ H Q I h
  refine wpAny_Call_Name_kw (ld_blt I hg hm hv ?_ hn hdb)
  exact PyProof.Rows.callWith_builtin1 (thn (ha pos pins s σ H _ I h) fun us s1 ⟨vs, H1, I1, r1, q1⟩ => hc pins s1 σ H1 vs us Q I1 r1 q1) he hpl
end
end L2
namespace HT
open PySem PyProof.Rows
section
open PySem.SeqAt
open PySem.AutoSeq1 (wpAny_loadPart')
open PySem.MeetsSeq PySem.MeetsSeq2 PySem.MeetsSeq3
end
section
variable {prog : Program} {w : World} {A : Around} {E : Value → Shared → Prop} {s : Shared}
/-! ### t[a:b], not the whole -/
/-- a slice's bound as a place among n (d where it is left out) -/
def sIx (n d : Nat) : Option Int → Nat
  | none => d
  | some v => if v < 0 then (v + (n : Int)).toNat else min v.toNat n
theorem sIx_none (n d : Nat) : sIx n d none = d := rfl
theorem sIx_nat (n d k : Nat) : sIx n d (some (k : Int)) = min k n := by
  show (if (k : Int) < 0 then ((k : Int) + (n : Int)).toNat else min (k : Int).toNat n) = min k n
  rw [if_neg (by omega), Int.toNat_natCast]
end
end HT
namespace L2
open PySem PySem.Spec PyProof.Rows
/-! ### the parts of a slice -/
abbrev TO := St → Hp → (Option Int → Hp → Prop) → Prop
/-- a slice's part (left out, or an int) -/
def PO (X : Cx) (e : Option Expr) (t : TO) : Prop :=
  ∀ (pins : List (Addr × Obj)) (s : Shared) (σ : St) (H : Hp) (Q : Option Int → Hp → Prop), Inv X pins σ H s → t σ H Q →
    wpAny (model X.prog X.w) X.A (evalPart e X.env) (fun u s' => ∃ o H', Inv X pins σ H' s' ∧ IsPart u o ∧ Q o H') X.xe s
def tNoPart : TO := fun _ H Q => Q none H
def tPart (t : TE) : TO := fun σ H Q => t σ H fun x H1 => ∃ i, x = .int i ∧ Q (some i) H1
section
variable {X : Cx} {e : Expr} {te : TE} {lo hi : Option Expr} {tl th : TO} {pos p2 : Pos}
theorem po_none : PO X none tNoPart := by
  intro pins s σ H Q I h
  rw [evalPart_none]
  exact wpAny_pure ⟨none, H, I, .none, h⟩
theorem po_some (h : PE X e te) : PO X (some e) (tPart te) := by
  intro pins s σ H Q I hw
  rw [evalPart_some]
  refine thn (h pins s σ H _ I hw) fun u s1 ⟨x, H1, I1, r1, q1⟩ => ?_
  obtain ⟨i, rfl, q⟩ := q1
  obtain ⟨t, rfl⟩ := r1
  exact ⟨some i, H1, I1, .int i t, q⟩
/-- what a slice of a value is, by values: the slice object stands at sl -/
def SlR (X : Cx) (r : V → Option Int → Option Int → Hp → VK → Prop) : Prop :=
  ∀ (pins : List (Addr × Obj)) (s : Shared) (σ : St) (H : Hp) (x : V) (v vl vu : Value) (lo hi : Option Int) (sl : Addr) (Q : VK), Inv X pins σ H s → RelV x v → s.heap.IsSliceOf sl vl vu .none → IsPart vl lo → IsPart vu hi → r x lo hi H Q →
    ∃ T id, typeLookup (.type T) "__getitem__" = pure (some (.builtin id)) ∧ s.TypeIs v T ∧ wpAny (model X.prog X.w) X.A (getItem v (.ref sl)) (EP X pins σ Q) X.xe s
def tSl (r : V → Option Int → Option Int → Hp → VK → Prop) (te : TE) (tl th : TO) : TE := fun σ H Q => te σ H fun x H1 => tl σ H1 fun l H2 => th σ H2 fun u H3 => r x l u H3 Q
/-- a[lo:hi], any a -/
theorem pe_slice {r : V → Option Int → Option Int → Hp → VK → Prop} (hr : SlR X r) (he : PE X e te) (hl : PO X lo tl) (hu : PO X hi th) : PE X (.Subscript e (.Slice lo hi none p2) pos) (tSl r te tl th) := by
  intro pins s σ H Q I h
  refine Subscript_ (thn (he pins s σ H _ I h) fun v s1 ⟨x, H1, I1, r1, q1⟩ => ?_)
  refine wpAny_Slice (thn (hl pins s1 σ H1 _ I1 q1) fun vl s2 ⟨l, H2, I2, pl, q2⟩ => thn (hu pins s2 σ H2 _ I2 q2) fun vu s3 ⟨u, H3, I3, pu, q3⟩ => ?_)
  rw [evalPart_none]
  refine wpAny_pure ?_
  have I4 : Inv X pins σ H3 { s3 with heap := s3.heap.push { cls := .type "slice", data := .fields #[vl, vu, .none] } } := I3.kept (t' := s3.toks) fun b ob q => Heap.get?_push_of_some _ q
  obtain ⟨T, id, hT, ht, hg⟩ := hr pins { s3 with heap := s3.heap.push { cls := .type "slice", data := .fields #[vl, vu, .none] } } σ H3 x v vl vu l u s3.heap.objs.size Q I4 r1 (Heap.IsSliceOf.new ..) pl pu q3
  show wpAny (model X.prog X.w) X.A (subscriptTail e (.Slice lo hi none p2) v (.ref s3.heap.objs.size)) (EP X pins σ Q) X.xe { s3 with heap := s3.heap.push { cls := .type "slice", data := .fields #[vl, vu, .none] } }
  exact tail_any (ops := [.ref s3.heap.objs.size, v]) ht hT hg (by with_unfolding_all rfl)
/-- the items of xs[lo:hi] -/
def cutV (xs : List V) (lo hi : Option Int) : List V := (xs.drop (HT.sIx xs.length 0 lo)).take (HT.sIx xs.length xs.length hi - HT.sIx xs.length 0 lo)
theorem cutV_length (xs : List V) (lo hi : Option Int) : (cutV xs lo hi).length ≤ xs.length := by
  unfold cutV
  rw [List.length_take, List.length_drop]
  omega
/-! ### t < u, t + u -/
end
end L2
namespace L2
open PySem PySem.Spec PyProof.Rows
/-! ### places -/
/-- the place that an index of any sign means -/
def ixN (n : Nat) (i : Int) : Option Nat := if 0 ≤ i then (if i < n then some i.toNat else none) else if -(n : Int) ≤ i then some (i + n).toNat else none
def atI {α : Type} (xs : List α) (i : Int) : Option α := (ixN xs.length i).bind fun j => xs[j]?
theorem ixN_seq {n : Nat} {i : Int} {j : Nat} (h : ixN n i = some j) : seqIndex? i n = some j ∧ j < n ∧ -(n : Int) ≤ i ∧ i < n := by
  unfold ixN at h
  by_cases h0 : 0 ≤ i
  · rw [if_pos h0] at h
    by_cases h1 : i < n
    · rw [if_pos h1] at h
      have e : i.toNat = j := Option.some.inj h
      exact ⟨by rw [seqIndex_of h0 h1, e], by omega, by omega, h1⟩
    · rw [if_neg h1] at h; cases h
  · rw [if_neg h0] at h
    by_cases h1 : -(n : Int) ≤ i
    · rw [if_pos h1] at h
      have e : (i + n).toNat = j := Option.some.inj h
      exact ⟨by rw [seqIndex_neg (by omega) h1, e], by omega, h1, by omega⟩
    · rw [if_neg h1] at h; cases h
theorem atI_get {α : Type} {xs : List α} {i : Int} {v : α} (h : atI xs i = some v) : ∃ j, seqIndex? i xs.length = some j ∧ xs[j]? = some v ∧ j < xs.length ∧ -(xs.length : Int) ≤ i ∧ i < xs.length := by
  unfold atI at h
  cases e : ixN xs.length i with
  | none => rw [e] at h; cases h
  | some j =>
    rw [e] at h
    obtain ⟨h1, h2, h3, h4⟩ := ixN_seq e
    exact ⟨j, h1, h, h2, h3, h4⟩
theorem atI_nat {α : Type} {xs : List α} {j : Nat} {v : α} (h : xs[j]? = some v) : atI xs (j : Int) = some v := by
  have hj : j < xs.length := (List.getElem?_eq_some_iff.mp h).1
  have e : ixN xs.length (j : Int) = some j := by
    unfold ixN
    rw [if_pos (by omega), if_pos (by omega)]; simp
  unfold atI; rw [e]; exact h
theorem atI_last {α : Type} (xs : List α) (v : α) : atI (xs ++ [v]) (-1) = some v := by
  have hl : (xs ++ [v]).length = xs.length + 1 := by simp
  have e : ixN (xs ++ [v]).length (-1) = some xs.length := by
    unfold ixN
    rw [hl, if_neg (by decide), if_pos (by omega)]
    congr 1
    omega
  unfold atI
  rw [e]
  show (xs ++ [v])[xs.length]? = some v
  simp
/-! ### what may be subscripted -/
/-- what stands as an index of a plain subscript -/
def PlainIx (b : Expr) : Prop := ∀ o i, subscripted b false o i = operate [o, i] (getItem o i)
/-- a subscript by values -/
def IxR (X : Cx) (r : R2) : Prop :=
  ∀ (value slice : Expr) (pins : List (Addr × Obj)) (s : Shared) (σ : St) (H : Hp) (x y : V) (v u : Value) (Q : VK), Inv X pins σ H s → RelV x v → RelV y u → r x y H Q →
    subscripted slice false v u = operate [v, u] (getItem v u) → wpAny (model X.prog X.w) X.A (subscriptTail value slice v u) (EP X pins σ Q) X.xe s
/-- a call of a builtin's method by values: the receiver, the arguments -/
def MtR (X : Cx) (id : String) (r : V → List V → Hp → VK → Prop) : Prop :=
  ∀ (pins : List (Addr × Obj)) (s : Shared) (σ : St) (H : Hp) (x : V) (xs : List V) (v : Value) (us : List Value) (Q : VK), Inv X pins σ H s → RelV x v → Vals xs us → r x xs H Q →
    wpAny (model X.prog X.w) X.A (call (.builtin id) (v :: us)) (EP X pins σ Q) X.xe s
section
variable {X : Cx} {a b : Expr} {ta tb : TE} {pos : Pos}
/-- a[b] -/
theorem pe_ix {r : R2} (hr : IxR X r) (ha : PE X a ta) (hb : PE X b tb) (hs : PlainIx b) : PE X (.Subscript a b pos) (tOp r ta tb) := by
  intro pins s σ H Q I h
  exact Subscript_ (binT ha hb I h fun v u s2 x y H2 I2 rx ry q => hr a b pins s2 σ H2 x y v u Q I2 rx ry q (hs _ _))
def rIxL (K : PySem.W.Frag) : R2 := fun x y H Q => ∃ p xs i v, x = .ref p ∧ y = .int i ∧ SqL K H p xs ∧ atI xs i = some v ∧ Q v H
def rIxT (K : PySem.W.Frag) : R2 := fun x y H Q => ∃ p xs i v, x = .ref p ∧ y = .int i ∧ SqT K H p xs ∧ atI xs i = some v ∧ Q v H
theorem ix_list : IxR X (rIxL X.K) := by
  intro value slice pins s σ H x y v u Q I rx ry h hs
  obtain ⟨p, xs, i, z, rfl, rfl, hq, he, q⟩ := h
  cases rx
  obtain ⟨t, rfl⟩ := ry
  obtain ⟨its, r, pl, hz⟩ := I.list hq
  obtain ⟨j, h1, h2, h3, h4, h5⟩ := atI_get he
  obtain ⟨w, ew, rw'⟩ := r.get h2
  have hl := r.length
  have hn := line63
  have fin : EP X pins σ Q w s := ⟨z, H, I, rw', q⟩
  by_cases h0 : 0 ≤ i
  · have hj : i.toNat = j := by
      rw [seqIndex_of h0 h5] at h1
      exact Option.some.inj h1
    exact item_listR pl.isList h0 (by omega) (by rw [hj]; simpa using ew) fin hs
  · have hj : (i + (its.toArray.size : Int)).toNat = j := by
      rw [seqIndex_neg (by omega) h4] at h1
      rw [List.size_toArray, ← hl]
      exact Option.some.inj h1
    exact subscriptTail_builtinR (x := w) pl.isList.typeIs slot_list_getitem.lookup
      (wpAny_getItem_list_neg (Q := fun r s' => r = w ∧ EP X pins σ Q r s') pl.isList (by omega) (by rw [List.size_toArray] <;> omega) (by omega) (by rw [hj]; simpa using ew) ⟨rfl, fin⟩) hs
theorem ix_tup : IxR X (rIxT X.K) := by
  intro value slice pins s σ H x y v u Q I rx ry h hs
  obtain ⟨p, xs, i, z, rfl, rfl, hq, he, q⟩ := h
  cases rx
  obtain ⟨t, rfl⟩ := ry
  obtain ⟨its, r, pl, hz⟩ := I.tuple hq
  obtain ⟨j, h1, h2, h3, h4, h5⟩ := atI_get he
  obtain ⟨w, ew, rw'⟩ := r.get h2
  have hl := r.length
  have hn := line63
  have fin : EP X pins σ Q w s := ⟨z, H, I, rw', q⟩
  exact subscriptTail_builtinR (x := w) pl.typeIs slot_tuple_getitem.lookup
    (getItem_tuple (j := j) (Q := fun r s' => r = w ∧ EP X pins σ Q r s') pl (by omega) (by omega) (by rw [List.size_toArray, ← hl]; exact h1) (by simpa using ew) ⟨rfl, fin⟩) hs
/-! ### xs[i] = v, any sign -/
/-- the list's object behind a store -/
theorem mapSeq_set (its : List Value) (n j : Nat) (u : Value) : Obj.mapSeq (·.setIfInBounds j u) { cls := .type "list", data := .seq its.toArray n } = { cls := .type "list", data := .seq (its.set j u).toArray n } := by
  simp [Obj.mapSeq]
theorem Inv.lst {pins : List (Addr × Obj)} {σ : St} {H : Hp} {s : Shared} {p : Addr} {xs : List V} (I : Inv X pins σ H s) (h : H p = some (.lst xs)) :
    ∃ (its : List Value) (n : Nat), Vals xs its ∧ s.heap.get? p = some { cls := .type "list", data := .seq its.toArray n } ∧ xs.length ≤ sizeLine := by
  obtain ⟨z, its, n, r, e⟩ := I.hok p _ h
  exact ⟨its, n, r, e, z⟩
/-- the list at p is written by an update of its object -/
theorem Inv.lstUpd {pins : List (Addr × Obj)} {σ : St} {H : Hp} {s : Shared} {p : Addr} {xs ys : List V} {its its' : List Value} {n n' : Nat} {f : Obj → Obj} (I : Inv X pins σ H s) (h : H p = some (.lst xs))
    (ho : s.heap.get? p = some { cls := .type "list", data := .seq its.toArray n }) (hf : f { cls := .type "list", data := .seq its.toArray n } = { cls := .type "list", data := .seq its'.toArray n' }) (r : Vals ys its') (hz : ys.length ≤ sizeLine) (t : Nat) :
    Inv X pins σ (upd H p (.lst ys)) { s with heap := s.heap.update p f, toks := t } := by
  have e : (s.heap.update p f).get? p = some { cls := .type "list", data := .seq its'.toArray n' } := by
    rw [Heap.get?_update_self f ho (by rw [hf] <;> rfl), hf]
  refine I.write (x := p) (e := p) (by rw [h]; trivial) (.inl rfl) (fun b u hb q => (Heap.get?_update_other _ _ (Ne.symm hb)).trans q) ⟨_, e⟩ ?_
  exact ⟨hz, its', n', r, e⟩
def rSetL : V → V → V → Hp → (Hp → Prop) → Prop := fun o i v H Q => ∃ p xs k j, o = .ref p ∧ i = .int k ∧ H p = some (.lst xs) ∧ ixN xs.length k = some j ∧ Q (upd H p (.lst (xs.set j v)))
theorem set_list : PSet X rSetL := by
  intro pins s σ H o i v ov iv u Q I ro ri rv h
  obtain ⟨p, xs, k, j, rfl, rfl, hp, hj, q⟩ := h
  cases ro
  obtain ⟨t, rfl⟩ := ri
  obtain ⟨its, n, r, ho, hz⟩ := I.lst hp
  obtain ⟨h1, h2, h3, h4⟩ := ixN_seq hj
  have hl := r.length
  have hn := line63
  have I' : Inv X pins σ (upd H p (.lst (xs.set j v))) { s with heap := s.heap.update p (Obj.mapSeq (·.setIfInBounds j u)) } :=
    I.lstUpd hp ho (mapSeq_set its n j u) (r.set rv j) (by rw [List.length_set]; exact hz) s.toks
  by_cases h0 : 0 ≤ k
  · have hk : k.toNat = j := by
      rw [seqIndex_of h0 h4] at h1
      exact Option.some.inj h1
    exact PySem.W.ki_setAt ho h0 (by omega) (by rw [List.size_toArray, ← hl]; exact h4) (by rw [hk]; exact ⟨_, I', q⟩)
  · have hk : (k + (its.toArray.size : Int)).toNat = j := by
      rw [seqIndex_neg (by omega) h3] at h1
      rw [List.size_toArray, ← hl]
      exact Option.some.inj h1
    exact PySem.W.ki_setBack ho (by omega) (by rw [List.size_toArray, ← hl]; exact h3) (by omega) (by rw [hk]; exact ⟨_, I', q⟩)
/-! ### slices -/
theorem slice_bounds (lo hi : Option Int) (n : Nat) : (sliceBounds lo hi none n).1 = ((HT.sIx n 0 lo : Nat) : Int) ∧ (sliceBounds lo hi none n).2.1 = ((HT.sIx n n hi : Nat) : Int) ∧ (sliceBounds lo hi none n).2.2 = 1 := by
  refine ⟨?_, ?_, rfl⟩
  · cases lo with
    | none => simp [sliceBounds, HT.sIx]
    | some i =>
      simp only [sliceBounds, HT.sIx, Option.getD_none, show (1 : Int) > 0 by decide, if_true]
      by_cases h : i < 0
      · simp only [h, if_true] <;> omega
      · simp only [h, if_false] <;> omega
  · cases hi with
    | none => simp [sliceBounds, HT.sIx]
    | some i =>
      simp only [sliceBounds, HT.sIx, Option.getD_none, show (1 : Int) > 0 by decide, if_true]
      by_cases h : i < 0
      · simp only [h, if_true] <;> omega
      · simp only [h, if_false] <;> omega
theorem slicePick_cut (its : List Value) (lo hi : Option Int) : slicePick its.toArray lo hi none = ((its.drop (HT.sIx its.length 0 lo)).take (HT.sIx its.length its.length hi - HT.sIx its.length 0 lo)).toArray := by
  obtain ⟨h1, h2, h3⟩ := slice_bounds lo hi its.toArray.size
  unfold slicePick
  rw [h1, h2, h3]
  simp only [sliceRange_one, pick_run, List.size_toArray] <;> rfl
/-- xs[lo:hi] of a list: a new list -/
def rSlL (K : PySem.W.Frag) : V → Option Int → Option Int → Hp → VK → Prop := fun x lo hi H Q => ∃ a xs, x = .ref a ∧ SqL K H a xs ∧ ∀ p, H p = none → Q (.ref p) (upd H p (.lst (cutV xs lo hi)))
theorem sl_list : SlR X (rSlL X.K) := by
  intro pins s σ H x v vl vu lo hi sl Q I rx hs pl pu h
  obtain ⟨a, xs, rfl, hx, q⟩ := h
  cases rx
  obtain ⟨its, r, ht, hz⟩ := I.list hx
  have hlen := r.length
  refine ⟨"list", _, slot_list_getitem.lookup, ht.isList.typeIs, ?_⟩
  refine wpAny_getItem_list_slice ht.isList hs pl pu .none (by simp) ?_ (by rw [List.size_toArray] <;> omega)
  rw [slicePick_cut, ← hlen]
  refine ⟨.ref s.heap.objs.size, _, I.laid (t' := s.toks) (o := .lst (cutV xs lo hi)) (fun b ob q => Heap.get?_push_of_some _ q) (Nat.le_refl _) ?_, rfl, q _ (I.hok.fresh (Nat.le_refl _))⟩
  exact ⟨Nat.le_trans (cutV_length xs lo hi) hz, _, 0, (r.drop (HT.sIx xs.length 0 lo)).take (HT.sIx xs.length xs.length hi - HT.sIx xs.length 0 lo), Heap.get?_push_size _ rfl⟩
/-! ### in, not in: flat items -/
/-! ### len, list(x), tuple(x) of any list or tuple that is read -/
theorem call_len_seq : CallR X (.builtin "len") (fun xs H Q => ∃ p ys, xs = [.ref p] ∧ (SqL X.K H p ys ∨ SqT X.K H p ys) ∧ Q (.int ys.length) H) := by
  intro pins s σ H xs us Q I r h
  obtain ⟨p, ys, rfl, hq, q⟩ := h
  obtain ⟨u, rfl, rx⟩ := vals1 r
  cases rx
  have hn := line63
  rcases hq with hq | hq
  · obtain ⟨its, r', pl, hz⟩ := I.list hq
    have hlen := r'.length
    exact Calls.call_len_list pl.isList (by simp only [List.size_toArray] <;> omega) ⟨.int ys.length, H, I.tok _, ⟨s.toks + 1, by rw [List.size_toArray, hlen]⟩, q⟩
  · obtain ⟨its, r', pl, hz⟩ := I.tuple hq
    have hlen := r'.length
    exact len_tuple pl (by simp only [List.size_toArray] <;> omega) ⟨.int ys.length, H, I.tok _, ⟨s.toks + 1, by rw [List.size_toArray, hlen]⟩, q⟩
/-! ### the call of a builtin's method: o.m(..) -/
/-- the value is of that builtin type -/
def tyV (K : PySem.W.Frag) (T : String) (x : V) (H : Hp) : Prop := match x with
  | .str _ => T = "str"
  | .int _ => T = "int"
  | .ref p => (T = "list" ∧ ∃ xs, SqL K H p xs) ∨ (T = "tuple" ∧ ∃ o, K.lookup p = some o ∧ o.cls = .type "tuple" ∧ o.dict = none) ∨
      (T = "dict" ∧ ((∃ kvs, H p = some (.dK kvs)) ∨ ∃ kvs, H p = some (.dT kvs))) ∨ (T = "set" ∧ ∃ S n, H p = some (.set S n))
  | _ => False
theorem tyV_is {pins : List (Addr × Obj)} {σ : St} {H : Hp} {s : Shared} {T : String} {x : V} {v : Value} (I : Inv X pins σ H s) (r : RelV x v) (ty : tyV X.K T x H) :
    s.TypeIs v T ∧ ∀ a, v = .ref a → ∃ ob, s.heap.get? a = some ob ∧ ob.dict = none := by
  cases x with
  | str z =>
    obtain ⟨t, rfl⟩ := r
    cases (show T = "str" from ty)
    exact ⟨typeIs_str s z t, fun _ e => nomatch e⟩
  | int i =>
    obtain ⟨t, rfl⟩ := r
    cases (show T = "int" from ty)
    exact ⟨typeIs_int s i t, fun _ e => nomatch e⟩
  | ref p =>
    cases r
    rcases ty with ⟨rfl, xs, hq⟩ | ⟨rfl, o, hk, hc, hd⟩ | ⟨rfl, hk⟩ | ⟨rfl, S, n, hk⟩
    · obtain ⟨its, _, pl, _⟩ := I.list hq
      refine ⟨pl.isList.typeIs, fun a e => ?_⟩
      cases e
      obtain ⟨o, n, e, c, hd, _⟩ := pl
      exact ⟨o, e, hd⟩
    · refine ⟨⟨o, I.kIn p o hk, hc⟩, fun a e => ?_⟩
      cases e
      exact ⟨o, I.kIn _ o hk, hd⟩
    · have z : ∃ o, s.heap.get? p = some o ∧ o.ExactDict := by
        rcases hk with ⟨kvs, hk⟩ | ⟨kvs, hk⟩
        · obtain ⟨_, _, _, _, o, _, _, e, ex, _⟩ := I.hok p _ hk
          exact ⟨o, e, ex⟩
        · obtain ⟨_, _, _, _, o, _, _, e, ex, _⟩ := I.hok p _ hk
          exact ⟨o, e, ex⟩
      obtain ⟨o, e, ex⟩ := z
      refine ⟨⟨o, e, ex.1⟩, fun a e2 => ?_⟩
      cases e2
      exact ⟨o, e, ex.2.1⟩
    · obtain ⟨o, _, _, _, e, ex, _⟩ := I.hok p _ hk
      refine ⟨⟨o, e, ex.1⟩, fun a e2 => ?_⟩
      cases e2
      exact ⟨o, e, ex.2.1⟩
  | _ => exact False.elim ty
def tBM0 (K : PySem.W.Frag) (T : String) (r : V → List V → Hp → VK → Prop) (to : TE) : TE := fun σ H Q => to σ H fun x H1 => tyV K T x H1 ∧ r x [] H1 Q
def tBM (K : PySem.W.Frag) (T : String) (r : V → List V → Hp → VK → Prop) (to : TE) (t : TA) : TE := fun σ H Q => to σ H fun x H1 => tyV K T x H1 ∧ t σ H1 fun xs H2 => r x xs H2 Q
variable {o e : Expr} {es : List Expr} {to : TE} {t : TA} {name : Str} {apos cpos : Pos} {T id : String} {r : V → List V → Hp → VK → Prop}
theorem pe_bm0 (pa : PlainAttrs T) (slot : Slot T name id) (hty : typeOf (.builtin id) = pure (.type "method_descriptor")) (hm : MtR X id r) (ho : PE X o to)
    (hbase : attributeBase o name X.env (eval o X.env) = eval o X.env := by rfl) (hline : (apos.endLine == cpos.line) = true := by rfl) : PE X (.Call (.Attribute o name apos) [] [] cpos) (tBM0 X.K T r to) := by
  intro pins s σ H Q I h
  refine wpAny_Call_method0_late hbase hline (thn (ho pins s σ H _ I h) fun v s1 ⟨x, H1, I1, r1, ty, q1⟩ => ?_)
  obtain ⟨h1, h2⟩ := tyV_is I1 r1 ty
  exact ⟨T, id, pa, slot, hty, h1, h2, Calls.callWith_builtin rfl (PySem.evalArgs_none (hm pins s1 σ H1 x [] v [] Q I1 r1 .nil q1))⟩
theorem pe_bm (pa : PlainAttrs T) (slot : Slot T name id) (hty : typeOf (.builtin id) = pure (.type "method_descriptor")) (hm : MtR X id r) (ho : PE X o to) (ha : PA X (e :: es) t)
    (hbase : attributeBase o name X.env (eval o X.env) = eval o X.env := by rfl)
    (hfew : ((backTo cpos (starEach (e :: es) X.env)).all (fun x => !x.1) && (backToKw cpos (keywordEach [] X.env)).all (fun x => x.1.isSome)
      && decide ((e :: es).length + ([] : List Keyword).length + (if ([] : List Keyword).isEmpty then 0 else 1) < 30)) = true := by rfl)
    (hline : (apos.endLine == cpos.line) = true := by rfl) (hs : starEach (e :: es) X.env = (false, eval e X.env) :: starEach es X.env := by rfl) (hplain : (backTo cpos (starEach es X.env)).any (·.1) = false := by rfl) :
    PE X (.Call (.Attribute o name apos) (e :: es) [] cpos) (tBM X.K T r to t) := by
  intro pins s σ H Q I h
  refine wpAny_Call_method_late hbase hfew hline rfl (thn (ho pins s σ H _ I h) fun v s1 ⟨x, H1, I1, r1, ty, q1⟩ => ?_)
  obtain ⟨h1, h2⟩ := tyV_is I1 r1 ty
  refine ⟨T, id, pa, slot, hty, h1, h2, ?_⟩
  have hA := ha cpos pins s1 σ H1 _ I1 q1
  rw [hs] at hA ⊢
  refine Calls.callWith_builtin (by show (false || (backTo cpos (starEach es X.env)).any (·.1)) = false; rw [hplain] <;> rfl) (Calls.evalArgs_plain ?_)
  exact thn hA fun us s2 ⟨vs, H2, I2, r2, q2⟩ => hm pins s2 σ H2 x vs v us Q I2 r1 r2 q2
/- xs.append(e), list.index on a module's tuple .. are MtR facts of 06m -/
end
end L2
namespace L2
open PySem PySem.Spec PyProof.Rows
def MtM (X : Cx) (id : String) (r : V → List V → Hp → VK → Prop) : Prop :=
  ∀ (pins : List (Addr × Obj)) (s : Shared) (σ : St) (H : Hp) (x : V) (xs : List V) (v : Value) (us : List Value) (Q : VK), Inv X pins σ H s → RelV x v → Vals xs us → r x xs H Q →
    wpAny (model X.prog X.w) X.A (call (.builtin id) (v :: us)) (EP X pins σ Q) X.xe s
/-! ### lists of values -/
theorem Vals.one : ∀ {x : V} {us : List Value}, Vals [x] us → ∃ u, us = [u] ∧ RelV x u
  | _, _, .cons r .nil => ⟨_, rfl, r⟩
theorem Vals.zero : ∀ {us : List Value}, Vals [] us → us = []
  | _, .nil => rfl
theorem Vals.dropLast {xs : List V} {us : List Value} (h : Vals xs us) : Vals xs.dropLast us.dropLast := by
  induction h with
  | nil => exact .nil
  | cons r t ih =>
    cases t with
    | nil => exact .nil
    | cons q t' => exact .cons r ih
theorem Vals.rep {xs : List V} {us : List Value} (h : Vals xs us) : ∀ k : Nat, Vals (List.replicate k xs).flatten (List.replicate k us).flatten
  | 0 => .nil
  | k + 1 => by
    rw [List.replicate_succ, List.replicate_succ, List.flatten_cons, List.flatten_cons]
    exact Vals.append h (Vals.rep h k)
theorem erase_last {α : Type} (l : List α) : l.eraseIdx (l.length - 1) = l.dropLast := by
  induction l with
  | nil => rfl
  | cons a r ih =>
    cases r with
    | nil => rfl
    | cons b r =>
      have e : (a :: b :: r).length - 1 = ((b :: r).length - 1) + 1 := by
        have h1 : (a :: b :: r).length = r.length + 2 := rfl
        have h2 : (b :: r).length = r.length + 1 := rfl
        omega
      rw [e, List.eraseIdx_cons_succ, ih]
      all_goals rfl
theorem foldl_rep (its : List Value) : ∀ (k : Nat) (acc : List Value),
    List.foldl (fun x1 x2 => x1 ++ x2) acc.toArray (List.replicate k its.toArray) = (acc ++ (List.replicate k its).flatten).toArray
  | 0, acc => by simp
  | k + 1, acc => by
    have e : acc.toArray ++ its.toArray = (acc ++ its).toArray := by simp
    have e2 : (acc ++ its) ++ (List.replicate k its).flatten = acc ++ (List.replicate (k + 1) its).flatten := by
      rw [List.replicate_succ, List.flatten_cons, List.append_assoc]
    rw [← e2, ← foldl_rep its k (acc ++ its), ← e, List.replicate_succ, List.foldl_cons]
section
variable {X : Cx} {pins : List (Addr × Obj)} {σ : St} {H : Hp} {s : Shared} {l b : Addr} {xs ys zs : List V}
/-! ### the two steps: a tracked list is rewritten, a new list is laid -/
theorem Inv.lset {its its' : List Value} {n : Nat} {f : Array Value → Array Value} {t' : Nat} (I : Inv X pins σ H s) (hH : H l = some (.lst xs))
    (e : s.heap.get? l = some { cls := .type "list", data := .seq its.toArray n }) (hf : f its.toArray = its'.toArray) (hv : Vals ys its') (hz : ys.length ≤ sizeLine) :
    Inv X pins σ (upd H l (.lst ys)) { s with heap := s.heap.update l (Obj.mapSeq f), toks := t' } := by
  have q := PySem.IsL.update e f
  rw [hf] at q
  refine I.write (x := l) (e := l) (by rw [hH]; exact trivial) (.inl rfl) (fun b' u hb hu => (Heap.get?_update_other s.heap (Obj.mapSeq f) (Ne.symm hb)).trans hu) ⟨_, q⟩ ?_
  exact ⟨hz, its', _, hv, q⟩
theorem Inv.lnew {its : List Value} {t' : Nat} (I : Inv X pins σ H s) (hv : Vals ys its) (hz : ys.length ≤ sizeLine) :
    Inv X pins σ (upd H s.heap.objs.size (.lst ys)) { s with heap := s.heap.push { cls := .type "list", data := .seq its.toArray }, toks := t' } :=
  I.laid (fun _ _ q => Heap.get?_push_of_some _ q) (Nat.le_refl _) ⟨hz, its, 0, hv, Heap.get?_push_size _ rfl⟩
theorem Inv.fresh (I : Inv X pins σ H s) : H s.heap.objs.size = none := I.hok.fresh (Nat.le_refl _)
theorem Inv.lstM (I : Inv X pins σ H s) (hH : H l = some (.lst xs)) : xs.length ≤ sizeLine ∧ ∃ (its : List Value) (n : Nat), Vals xs its ∧ xs.length = its.length ∧ s.heap.get? l = some { cls := .type "list", data := .seq its.toArray n } := by
  obtain ⟨z, its, n, r, e⟩ := I.hok l _ hH
  exact ⟨z, its, n, r, r.length, e⟩
theorem notLongL {n : Nat} (h : n ≤ sizeLine) : Builtin.List.listTooLong n = false := by
  unfold Builtin.List.listTooLong
  exact decide_eq_false (by omega)
end
section
variable {X : Cx}
/-! ### methods -/
def rAppend : V → List V → Hp → VK → Prop := fun x vs H Q => ∃ l xs y, x = .ref l ∧ vs = [y] ∧ H l = some (.lst xs) ∧ xs.length < sizeLine ∧ Q .non (upd H l (.lst (xs ++ [y])))
theorem mt_append : MtM X "list.append" rAppend := by
  intro pins s σ H x vs v us Q I rx rv h
  obtain ⟨l, xs, y, rfl, rfl, hH, hz, q⟩ := h
  cases rx
  obtain ⟨u, rfl, ru⟩ := rv.one
  obtain ⟨z, its, n, r, hl, e⟩ := I.lstM hH
  refine call_meets F.slot_list_append ⟨_, e, rfl⟩ F.entry_list_append (F.args_list_append_2 _ _) (PySem.list_append l its.toArray n u (by rw [List.size_toArray]; omega)) ⟨e, ?_⟩
  refine ⟨.non, _, I.lset (its' := its ++ [u]) hH e (by simp) (r.append (.cons ru .nil)) ?_, rfl, q⟩
  rw [List.length_append, List.length_singleton]
  omega
def rExtend : V → List V → Hp → VK → Prop := fun x vs H Q => ∃ l b xs zs, x = .ref l ∧ vs = [.ref b] ∧ H l = some (.lst xs) ∧ H b = some (.lst zs) ∧ xs.length + zs.length ≤ sizeLine ∧ Q .non (upd H l (.lst (xs ++ zs)))
theorem mt_extend : MtM X "list.extend" rExtend := by
  intro pins s σ H x vs v us Q I rx rv h
  obtain ⟨l, b, xs, zs, rfl, rfl, hH, hB, hz, q⟩ := h
  cases rx
  obtain ⟨u, rfl, ru⟩ := rv.one
  cases ru
  obtain ⟨z, its, n, r, hl, e⟩ := I.lstM hH
  obtain ⟨z2, its2, n2, r2, hl2, e2⟩ := I.lstM hB
  have hsz : its.toArray.size + its2.toArray.size ≤ sizeLine := by rw [List.size_toArray, List.size_toArray]; omega
  have hlong : ¬ (!its.toArray.isEmpty && Builtin.List.listTooLong (its.toArray.size + its2.toArray.size)) = true := by
    rw [notLongL hsz, Bool.and_false]
    exact Bool.false_ne_true
  refine call_meets F.slot_list_extend ⟨_, e, rfl⟩ F.entry_list_extend (F.args_list_extend_2 _ _)
    (AutoSeq1.list_extend_list_list_0 l its.toArray n b its2.toArray n2 hlong (by rw [List.size_toArray]; omega) (by omega)) ⟨e, e2, ?_⟩
  refine ⟨.non, _, I.lset (its' := its ++ its2) hH e (by simp) (r.append r2) ?_, rfl, q⟩
  rw [List.length_append]
  omega
def rPop : V → List V → Hp → VK → Prop := fun x vs H Q => ∃ l xs y, x = .ref l ∧ vs = [] ∧ H l = some (.lst xs) ∧ xs[xs.length - 1]? = some y ∧ Q y (upd H l (.lst xs.dropLast))
theorem mt_pop : MtM X "list.pop" rPop := by
  intro pins s σ H x vs v us Q I rx rv h
  obtain ⟨l, xs, y, rfl, rfl, hH, hy, q⟩ := h
  cases rx
  have hus := rv.zero
  subst hus
  obtain ⟨z, its, n, r, hl, e⟩ := I.lstM hH
  obtain ⟨u, hu, ru⟩ := r.get hy
  have hy' : its.toArray[its.toArray.size - 1]? = some u := by
    show its.toArray[its.length - 1]? = some u
    rw [← Array.getElem?_toList, ← hl]
    exact hu
  refine call_meets F.slot_list_pop ⟨_, e, rfl⟩ F.entry_list_pop (F.args_list_pop_1 _) (MeetsSeq.list_pop_last l its.toArray n u hy' (by rw [List.size_toArray]; omega)) ⟨e, ?_⟩
  refine ⟨y, _, I.lset (its' := its.dropLast) hH e ?_ r.dropLast ?_, ru, q⟩
  · show its.toArray.eraseIdxIfInBounds (its.toArray.size - 1) = its.dropLast.toArray
    rw [List.size_toArray, List.eraseIdxIfInBounds_toArray, erase_last]
  · rw [List.length_dropLast]
    omega
/-! ### list + list, list += list, list * int -/
def rCat : R2 := fun x y H Q => ∃ l b xs zs, x = .ref l ∧ y = .ref b ∧ H l = some (.lst xs) ∧ H b = some (.lst zs) ∧ xs.length + zs.length ≤ sizeLine ∧ ∀ p, H p = none → Q (.ref p) (upd H p (.lst (xs ++ zs)))
theorem op_cat : OpR X (binaryOp .Add) rCat := by
  intro pins s σ H x y v u Q I rx ry h
  obtain ⟨l, b, xs, zs, rfl, rfl, hH, hB, hz, q⟩ := h
  cases rx
  cases ry
  obtain ⟨z, its, n, r, hl, e⟩ := I.lstM hH
  obtain ⟨z2, its2, n2, r2, hl2, e2⟩ := I.lstM hB
  refine PySem.P.add_list e e2 ?_ (by rw [List.size_toArray, List.size_toArray]; omega)
  have ea : its.toArray ++ its2.toArray = (its ++ its2).toArray := by simp
  rw [ea]
  exact ⟨.ref _, _, I.lnew (t' := s.toks) (r.append r2) (by rw [List.length_append]; omega), rfl, q _ I.fresh⟩
/-- a list times an int (a negative one is nothing) -/
def rRep : R2 := fun x y H Q => ∃ l k xs, x = .ref l ∧ y = .int k ∧ H l = some (.lst xs) ∧ -(2 ^ 63) ≤ k ∧ k < 2 ^ 63 ∧ xs.length * k.toNat ≤ sizeLine ∧
  ∀ p, H p = none → Q (.ref p) (upd H p (.lst (List.replicate k.toNat xs).flatten))
theorem len_rep {α : Type} (xs : List α) (k : Nat) : (List.replicate k xs).flatten.length = k * xs.length := by
  induction k with
  | zero => simp
  | succ k ih => rw [List.replicate_succ, List.flatten_cons, List.length_append, ih, Nat.succ_mul, Nat.add_comm]
theorem op_rep : OpR X (binaryOp .Mult) rRep := by
  intro pins s σ H x y v u Q I rx ry h
  obtain ⟨l, k, xs, rfl, rfl, hH, h1, h2, hz, q⟩ := h
  cases rx
  obtain ⟨t, rfl⟩ := ry
  obtain ⟨z, its, n, r, hl, e⟩ := I.lstM hH
  have hlen : its.toArray.size * k.toNat ≤ sizeLine := by rw [List.size_toArray, ← hl]; exact hz
  have hcap : ¬ its.toArray.size * k.toNat > (2 ^ 63 - 1) / 8 := by
    have : (sizeLine : Nat) ≤ (2 ^ 63 - 1) / 8 := by decide
    omega
  have hfit : ¬ (!Builtin.List.listFitsIndex k) = true := by
    rw [fitsIndex_both h1 h2]
    exact Bool.false_ne_true
  have hlong : ¬ Builtin.List.listTooLong (its.toArray.size * k.toNat) = true := by
    rw [notLongL hlen]
    exact Bool.false_ne_true
  have hnew : List.foldl (fun x1 x2 => x1 ++ x2) #[] (List.replicate (if its.toArray.isEmpty = true then 0 else k.toNat) its.toArray) = (List.replicate k.toNat its).flatten.toArray := by
    have f0 : ∀ m : Nat, List.foldl (fun x1 x2 => x1 ++ x2) #[] (List.replicate m its.toArray) = (List.replicate m its).flatten.toArray := fun m => by
      have := foldl_rep its m []
      rw [List.nil_append] at this
      exact this
    rw [f0]
    cases its with
    | nil => simp
    | cons a r' => rw [if_neg (by simp)]
  refine wpAny_binaryOp_repeat_ref (T := "list") (U := "int") (by decide) ⟨_, e, rfl⟩ (fun s' => typeIs_int s' k t) noFill_list_mul F.fills_int_mul F.slot_int_rmul repeat_list F.slot_int_index.lookup
    (call_meets F.slot_int_rmul (typeIs_int s k t) F.entry_int_rmul (F.args_int_rmul_2 _ _) (int___rmul___int_list k t l its.toArray n)
      ⟨e, rfl, ⟨_, e, rfl⟩, call_meets F.slot_list_mul ⟨_, e, rfl⟩ F.entry_list_mul (F.args_list_mul_2 _ _) (AutoListH.list___mul___list_int_3 l its.toArray n k t hfit hcap hlong) ⟨e, ?_⟩⟩)
  rw [hnew]
  exact ⟨.ref _, _, I.lnew (t' := s.toks) (r.rep k.toNat) (by rw [len_rep, Nat.mul_comm]; exact hz), rfl, q _ I.fresh⟩
/-! ### del xs[i] -/
end
/-! ### xs[a:b] = ys -/
section
variable {prog : Program} {w : World} {A : Around} {E : Value → Shared → Prop} {s : Shared}
end
section
variable {X : Cx}
end
end L2
namespace L2
open PySem PySem.Spec PyProof.Rows
theorem Vals.ints : ∀ {ns : List Int} {us : List Value}, Vals (ns.map V.int) us → IntsAre us ns
  | [], us, h => by
    rw [List.map_nil] at h
    cases h
    exact IntsAre.nil
  | n :: ns, us, h => by
    rw [List.map_cons] at h
    cases h with
    | cons r t =>
      obtain ⟨k, rfl⟩ := r
      exact IntsAre.cons n k (Vals.ints t)
theorem Vals.ref1 {a : Addr} {us : List Value} (r : Vals [V.ref a] us) : us = [Value.ref a] := by
  cases r with
  | cons r t =>
    cases t
    cases r
    rfl
/-! ### the library's walks over a list of ints, kept objects alone -/
section
variable {prog : Program} {w : World} {A : Around} {E : Value → Shared → Prop} {s : Shared} {l : Addr} {its : List Value} {ns : List Int} {Q : Value → Shared → Prop}
theorem sum_raw (hh : A.handled = none) (hl : s.heap.IsList l its.toArray) (hi : IntsAre its ns)
    (h : ∀ h' tk t', (∀ b o, s.heap.get? b = some o → h'.get? b = some o) → Q (.int ns.sum t') { s with heap := h', toks := tk }) : wpAny (model prog w) A (call (.builtin "sum") [.ref l]) Q E s := by
  obtain ⟨xs, e⟩ := hi.allInts.items
  have hn : numsOf (intItems xs).toList = ns := by rw [← e]; exact hi.numsOf
  rw [nums_intItems] at hn
  rw [e] at hl
  refine PySem.sum_intListG hh hl fun h' tk t' hk => ?_
  have := h h' tk t' hk
  rw [preSum_eq, List.take_of_length_le (by simp), hn]; exact this
theorem max_raw (hh : A.handled = none) (hl : s.heap.IsList l its.toArray) (hi : IntsAre its ns) (hne : 0 < ns.length)
    (h : ∀ h' tk M t', (∀ b o, s.heap.get? b = some o → h'.get? b = some o) → M ∈ ns → (∀ a, a ∈ ns → a ≤ M) → Q (.int M t') { s with heap := h', toks := tk }) : wpAny (model prog w) A (call (.builtin "max") [.ref l]) Q E s := by
  obtain ⟨xs, e⟩ := hi.allInts.items
  have hn : numsOf (intItems xs).toList = ns := by rw [← e]; exact hi.numsOf
  rw [nums_intItems] at hn
  subst hn
  rw [e] at hl
  have hsz : 0 < xs.size := by simpa using hne
  refine PySem.max_intList hh hl hsz fun v h' tk hv hk => ?_
  obtain ⟨t, rfl⟩ := intItems_at hv
  obtain ⟨h1, h2⟩ := argBest_gt (numAt xs) (xs.size - 1)
  refine h h' tk _ t hk ?_ fun a ha => ?_
  · rw [numAt_eq]; exact PySem.getD_mem (by rw [List.length_map, Array.length_toList]; omega)
  · obtain ⟨j, hj, rfl⟩ := mem_getD ha
    rw [List.length_map, Array.length_toList] at hj
    rw [← numAt_eq]; exact h2 j (by omega)
theorem min_raw (hh : A.handled = none) (hl : s.heap.IsList l its.toArray) (hi : IntsAre its ns) (hne : 0 < ns.length)
    (h : ∀ h' tk M t', (∀ b o, s.heap.get? b = some o → h'.get? b = some o) → M ∈ ns → (∀ a, a ∈ ns → M ≤ a) → Q (.int M t') { s with heap := h', toks := tk }) : wpAny (model prog w) A (call (.builtin "min") [.ref l]) Q E s := by
  obtain ⟨xs, e⟩ := hi.allInts.items
  have hn : numsOf (intItems xs).toList = ns := by rw [← e]; exact hi.numsOf
  rw [nums_intItems] at hn
  subst hn
  rw [e] at hl
  have hsz : 0 < xs.size := by simpa using hne
  refine PySem.min_intList hh hl hsz fun v h' tk hv hk => ?_
  obtain ⟨t, rfl⟩ := intItems_at hv
  obtain ⟨h1, h2⟩ := argBest_lt (numAt xs) (xs.size - 1)
  refine h h' tk _ t hk ?_ fun a ha => ?_
  · rw [numAt_eq]; exact PySem.getD_mem (by rw [List.length_map, Array.length_toList]; omega)
  · obtain ⟨j, hj, rfl⟩ := mem_getD ha
    rw [List.length_map, Array.length_toList] at hj
    rw [← numAt_eq]; exact h2 j (by omega)
end
/-! ### the calls, by values (CallR of 03t; MtR of 06l) -/
section
variable {X : Cx}
/-- sum(xs) of a list of ints -/
def rSum (K : PySem.W.Frag) : List V → Hp → VK → Prop := fun vs H Q => ∃ (a : Addr) (ns : List Int), vs = [V.ref a] ∧ SqL K H a (ns.map V.int) ∧ Q (.int ns.sum) H
def rMin (K : PySem.W.Frag) : List V → Hp → VK → Prop := fun vs H Q => ∃ (a : Addr) (ns : List Int), vs = [V.ref a] ∧ SqL K H a (ns.map V.int) ∧ 0 < ns.length ∧ ∀ m, m ∈ ns → (∀ y, y ∈ ns → m ≤ y) → Q (.int m) H
theorem cr_sum (hc : X.calm = true) : CallR X (.builtin "sum") (rSum X.K) := by
  intro pins s σ H vs us Q I r h
  obtain ⟨a, ns, rfl, hs, q⟩ := h
  obtain ⟨its, rv, hl, _⟩ := I.list hs
  rw [Vals.ref1 r]
  exact sum_raw (I.ok.hd hc) hl.isList rv.ints fun h' tk t' hk => ⟨.int _, H, I.kept hk, ⟨_, rfl⟩, q⟩
theorem cr_min (hc : X.calm = true) : CallR X (.builtin "min") (rMin X.K) := by
  intro pins s σ H vs us Q I r h
  obtain ⟨a, ns, rfl, hs, hne, q⟩ := h
  obtain ⟨its, rv, hl, _⟩ := I.list hs
  rw [Vals.ref1 r]
  exact min_raw (I.ok.hd hc) hl.isList rv.ints hne fun h' tk m t' hk h1 h2 => ⟨.int _, H, I.kept hk, ⟨_, rfl⟩, q m h1 h2⟩
/-! sorted, sort (fewer than 64 items: the library's own bound) -/
end
/-! ### list.index, flat items -/
section
variable {X : Cx}
end
/-! ### type(x) of an own instance; is, is not of a module's class -/
section
variable {X : Cx}
end
/-! ### any(xs), all(xs) of a list of bools -/
section
variable {X : Cx}
end
/-! ### == and != of data at any depth: none, bools, ints, texts, lists, tuples -/
section
variable {X : Cx} {pins : List (Addr × Obj)} {σ : St} {H : Hp} {s : Shared}
end
section
variable {X : Cx}
end
end L2
namespace L2
open PySem PySem.Spec PyProof.Rows
abbrev CellAt (h : Heap) (c : Addr) (v : Option Value) : Prop := h.IsCell c v
def relS (scope sc : Scope) : Scope :=
  { scope with names := scope.names.map fun (n, k) => if (k == .free && sc.kind == .function && sc.names.lookup n == some .cell) then (n, .cell) else (n, k) }
def cloFrom (cells : List (Str × Addr)) : List (Str × NameKind) → List (Str × Addr) → List (Str × Addr)
  | [], acc => acc
  | (n, k) :: r, acc => if k == .free then cloFrom cells r ((n, (cells.lookup n).getD 0) :: acc) else cloFrom cells r acc
theorem closure_loop (env : Env) (f : Str × NameKind → List (Str × Addr) → Sem (ForInStep (List (Str × Addr))))
    (hf : ∀ n k c, f (n, k) c = if k == .free then (do let a ← cellOf env n; pure (.yield ((n, a) :: c))) else pure (.yield c)) :
    ∀ (names : List (Str × NameKind)) (acc : List (Str × Addr)), (∀ y ∈ names, y.2 = .free → ∃ c, env.cells.lookup y.1 = some c) → forIn names acc f = pure (cloFrom env.cells names acc)
  | [], acc, _ => by rw [List.forIn_nil]; rfl
  | (n, k) :: r, acc, h => by
    rw [List.forIn_cons, hf]
    have ih := fun acc => closure_loop env f hf r acc fun y hy => h y (List.mem_cons_of_mem _ hy)
    unfold cloFrom
    by_cases hk : (k == NameKind.free) = true
    · rw [if_pos hk, if_pos hk]
      obtain ⟨c, hc⟩ := h (n, k) List.mem_cons_self (by simpa using hk)
      have e : cellOf env n = pure c := by unfold cellOf; rw [hc]
      rw [e]
      have e2 : (env.cells.lookup n).getD 0 = c := by rw [hc]; rfl
      rw [e2]
      exact ih _
    · rw [if_neg hk, if_neg hk]
      exact ih _
theorem closure_ok {scope : Scope} {env : Env} (h : ∀ y ∈ scope.names, y.2 = .free → ∃ c, env.cells.lookup y.1 = some c) : closureFor scope env = pure (cloFrom env.cells scope.names []) := by
  simp only [closureFor]
  rw [closure_loop env _ (fun n k c => rfl) scope.names [] h]
  rfl
theorem mem_lookup {α : Type} : ∀ {l : List (Str × α)} {n : Str} {c : α}, (n, c) ∈ l → ∃ c', l.lookup n = some c'
  | (k, v) :: r, n, c, h => by
    rw [List.lookup_cons]
    cases hb : n == k with
    | true => exact ⟨_, rfl⟩
    | false =>
      rcases List.mem_cons.mp h with e | h
      · cases e; simp at hb
      · exact mem_lookup h
theorem cloFrom_mem {cells : List (Str × Addr)} : ∀ {names : List (Str × NameKind)} {acc : List (Str × Addr)} {n : Str} {c : Addr}, (n, c) ∈ cloFrom cells names acc → (n, c) ∈ acc ∨ ((n, .free) ∈ names ∧ c = (cells.lookup n).getD 0)
  | [], _, _, _, h => .inl h
  | (m, k) :: r, acc, n, c, h => by
    unfold cloFrom at h
    split at h
    · rename_i hk
      have hk : k = .free := by simpa using hk
      rcases cloFrom_mem h with h | ⟨h1, h2⟩
      · rcases List.mem_cons.mp h with e | h
        · cases e; exact .inr ⟨hk ▸ List.mem_cons_self, rfl⟩
        · exact .inl h
      · exact .inr ⟨List.mem_cons_of_mem _ h1, h2⟩
    · rcases cloFrom_mem h with h | ⟨h1, h2⟩
      · exact .inl h
      · exact .inr ⟨List.mem_cons_of_mem _ h1, h2⟩
theorem cloFrom_acc {cells : List (Str × Addr)} : ∀ {names : List (Str × NameKind)} {acc : List (Str × Addr)} {p : Str × Addr}, p ∈ acc → p ∈ cloFrom cells names acc
  | [], _, _, h => h
  | (m, k) :: r, acc, p, h => by
    unfold cloFrom
    split
    · exact cloFrom_acc (List.mem_cons_of_mem _ h)
    · exact cloFrom_acc h
theorem cloFrom_has {cells : List (Str × Addr)} : ∀ {names : List (Str × NameKind)} {acc : List (Str × Addr)} {n : Str}, (n, .free) ∈ names → (n, (cells.lookup n).getD 0) ∈ cloFrom cells names acc
  | (m, k) :: r, acc, n, h => by
    unfold cloFrom
    rcases List.mem_cons.mp h with e | h
    · cases e
      exact cloFrom_acc List.mem_cons_self
    · split
      · exact cloFrom_has h
      · exact cloFrom_has h
theorem cells_mem : ∀ {names : List (Str × NameKind)} {h : Heap} {acc : List (Str × Addr)} {x : Str} {c : Addr}, (x, c) ∈ cellsFrom h.objs.size names acc →
    (x, c) ∈ acc ∨ ((x, .cell) ∈ names ∧ h.objs.size ≤ c ∧ CellAt (pushCells h names) c none)
  | [], _, _, _, _, h => .inl h
  | (n, k) :: r, h, acc, x, c, hm => by
    unfold cellsFrom at hm
    unfold pushCells
    split at hm
    · rename_i hk
      rw [if_pos hk]
      have hk : k = .cell := by simpa using hk
      rw [← Heap.size_push h { cls := .type "cell", data := .cell none }] at hm
      rcases cells_mem hm with hm | ⟨h1, h2, h3⟩
      · rcases List.mem_cons.mp hm with e | hm
        · cases e
          exact .inr ⟨hk ▸ List.mem_cons_self, Nat.le_refl _, _, pushCells_keeps r _ _ _ (Heap.get?_push_size _ rfl), rfl⟩
        · exact .inl hm
      · rw [Heap.size_push] at h2
        exact .inr ⟨List.mem_cons_of_mem _ h1, Nat.le_of_succ_le h2, h3⟩
    · rename_i hk
      rw [if_neg hk]
      rcases cells_mem hm with hm | ⟨h1, h2, h3⟩
      · exact .inl hm
      · exact .inr ⟨List.mem_cons_of_mem _ h1, h2, h3⟩
theorem cells_acc : ∀ {names : List (Str × NameKind)} {n : Nat} {acc : List (Str × Addr)} {p : Str × Addr}, p ∈ acc → p ∈ cellsFrom n names acc
  | [], _, _, _, h => h
  | (m, k) :: r, n, acc, p, h => by
    unfold cellsFrom
    split
    · exact cells_acc (List.mem_cons_of_mem _ h)
    · exact cells_acc h
theorem cells_has : ∀ {names : List (Str × NameKind)} {n : Nat} {acc : List (Str × Addr)} {x : Str}, (x, .cell) ∈ names → ∃ c, (x, c) ∈ cellsFrom n names acc
  | (m, k) :: r, n, acc, x, h => by
    unfold cellsFrom
    rcases List.mem_cons.mp h with e | h
    · cases e
      exact ⟨n, cells_acc List.mem_cons_self⟩
    · split
      · exact cells_has h
      · exact cells_has h
theorem cells_inj : ∀ {names : List (Str × NameKind)} {h : Heap} {acc : List (Str × Addr)} {x y : Str} {c : Addr}, (∀ p ∈ acc, p.2 < h.objs.size) → (∀ x y c, (x, c) ∈ acc → (y, c) ∈ acc → x = y) →
    (x, c) ∈ cellsFrom h.objs.size names acc → (y, c) ∈ cellsFrom h.objs.size names acc → x = y
  | [], _, _, _, _, _, _, hi, h1, h2 => hi _ _ _ h1 h2
  | (n, k) :: r, h, acc, x, y, c, hl, hi, h1, h2 => by
    unfold cellsFrom at h1 h2
    split at h1
    · rename_i hk
      rw [if_pos hk] at h2
      rw [← Heap.size_push h { cls := .type "cell", data := .cell none }] at h1 h2
      refine cells_inj (h := h.push _) (fun p hp => ?_) (fun x y c a b => ?_) h1 h2
      · rw [Heap.size_push]
        rcases List.mem_cons.mp hp with rfl | hp
        · exact Nat.lt_succ_self _
        · exact Nat.lt_succ_of_lt (hl p hp)
      · rcases List.mem_cons.mp a with e | a <;> rcases List.mem_cons.mp b with e' | b
        · cases e; cases e'; rfl
        · cases e; exact absurd (hl _ b) (Nat.lt_irrefl _)
        · cases e'; exact absurd (hl _ a) (Nat.lt_irrefl _)
        · exact hi _ _ _ a b
    · rename_i hk
      rw [if_neg hk] at h2
      exact cells_inj hl hi h1 h2
theorem newEnv_comp {M : Model} {A : Around} {E : Value → Shared → Prop} {s : Shared} {scope : Scope} {globals : Addr} {closure : List (Str × Addr)} {qual : Str} {func : Option Addr} {code : Value} {around : Env} {builtins : Addr} {Q : Env → Shared → Prop}
    (h : Q (newEnv scope s.heap.objs.size globals (cellsFrom (s.heap.objs.size + 1) scope.names closure) qual func code (some around) builtins)
      { s with heap := pushCells (s.heap.push { cls := .type "dict", data := .dict #[] }) scope.names }) :
    wpAny M A (newFunctionEnv scope globals closure [] qual func code (some around) builtins) Q E s := by
  simp only [newFunctionEnv, Option.isSome_some, if_true]
  refine wpAny_bind (wpAny_alloc ?_)
  refine wpAny_bind (wpAny_layCells _ (fun n k c => rfl) scope.names closure _ _ ?_)
  rw [show ({ s with heap := s.heap.push { cls := .type "dict", data := .dict #[] } } : Shared).heap.objs.size = s.heap.objs.size + 1 from Heap.size_push ..]
  rw [List.forIn_nil]
  exact wpAny_bind (wpAny_pure (wpAny_pure h))
/-- every name of the written scope, in the scope that runs -/
theorem lookup_relS {sc : Scope} : ∀ {names : List (Str × NameKind)} {x : Str} {k : NameKind},
    (names.map fun (n, k) => if (k == NameKind.free && sc.kind == .function && sc.names.lookup n == some .cell) then (n, NameKind.cell) else (n, k)).lookup x = some k →
    ∃ k', names.lookup x = some k' ∧ (k = k' ∨ (k' = .free ∧ k = .cell))
  | [], _, _, h => by simp at h
  | (n, k₀) :: r, x, k, h => by
    have ih := @lookup_relS sc r x k
    have h' : List.lookup x ((if (k₀ == NameKind.free && sc.kind == .function && sc.names.lookup n == some .cell) = true then (n, NameKind.cell) else (n, k₀)) :: (r.map _)) = some k := h
    cases hx : x == n with
    | true =>
      simp only [List.lookup_cons, hx]
      by_cases hc : (k₀ == NameKind.free && sc.kind == .function && sc.names.lookup n == some .cell) = true
      · rw [if_pos hc] at h'
        simp only [List.lookup_cons, hx] at h'
        cases h'
        simp only [Bool.and_eq_true, beq_iff_eq] at hc
        exact ⟨k₀, rfl, .inr ⟨hc.1.1, rfl⟩⟩
      · rw [if_neg hc] at h'
        simp only [List.lookup_cons, hx] at h'
        cases h'
        exact ⟨_, rfl, .inl rfl⟩
    | false =>
      simp only [List.lookup_cons, hx]
      by_cases hc : (k₀ == NameKind.free && sc.kind == .function && sc.names.lookup n == some .cell) = true
      · rw [if_pos hc] at h'
        simp only [List.lookup_cons, hx] at h'
        exact ih h'
      · rw [if_neg hc] at h'
        simp only [List.lookup_cons, hx] at h'
        exact ih h'
/-- the names of a comprehension's block: its own (with their places in N), or captured -/
structure BlkOk (N : List Str) (sc scope : Scope) (own : List (Str × Nat)) : Prop where
  kind : scope.kind = .function
  uniq : ∀ y ∈ scope.names, scope.names.lookup y.1 = some y.2
  ix : ∀ p ∈ own, N[p.2]? = some p.1
  free : ∀ y ∈ scope.names, y.2 = .free → sc.names.lookup y.1 = some .cell ∨ sc.names.lookup y.1 = some .free
  own : ∀ y ∈ scope.names, y.2 = .local ∨ y.2 = .cell → y.1 ∈ own.map (·.1) ∨ y.1 ∉ N
/-- the slots of the block's own names forgotten -/
def wipe (σ : St) : List Nat → St
  | [] => σ
  | v :: vs => (wipe σ vs).set v none
theorem wipe_length (σ : St) : ∀ vs : List Nat, (wipe σ vs).length = σ.length
  | [] => rfl
  | v :: vs => by unfold wipe; rw [List.length_set, wipe_length σ vs]
theorem wipe_some {σ : St} {i : Nat} {x : V} : ∀ {vs : List Nat}, (wipe σ vs)[i]? = some (some x) → σ[i]? = some (some x) ∧ i ∉ vs
  | [], h => ⟨h, by simp⟩
  | v :: vs, h => by
    unfold wipe at h
    by_cases hi : v = i
    · subst hi
      by_cases hv : v < (wipe σ vs).length
      · rw [List.getElem?_set_self hv] at h; cases h
      · rw [List.getElem?_eq_none (by simpa using hv)] at h; cases h
    · rw [List.getElem?_set_ne hi] at h
      obtain ⟨h1, h2⟩ := wipe_some h
      exact ⟨h1, by simp only [List.mem_cons, not_or]; exact ⟨fun e => hi e.symm, h2⟩⟩
/-- the context of a block that starts at s, its iterator's objects at fp -/
abbrev Cx.blk (X : Cx) (s : Shared) (H : Hp) (scope : Scope) (cenv : Env) (fp : List Addr) : Cx := { X with s_0 := s, H_0 := H, env := cenv, outer := X.stack, ex := fp, fn := fun x => scope.names.lookup x == some .cell, pn := [], xe := fun _ _ => False }
section
variable {X : Cx} {pins : List (Addr × Obj)} {σ : St} {H : Hp} {s : Shared}
theorem block_start {scope : Scope} {own : List (Str × Nat)} {fp : List Addr} (I : Inv X pins σ H s) (ok : BlkOk X.N X.env.scope scope own) (hN : X.N.Nodup) (hfp : ∀ b ∈ fp, FpOk X pins H b ∧ b < s.heap.objs.size) :
    Inv (X.blk s H scope (compEnvC scope (cellsFrom (s.heap.objs.size + 1) scope.names (cloFrom X.env.cells scope.names [])) s.heap.objs.size X.env) fp) [] (wipe σ (own.map (·.2))) H { s with heap := pushCells (s.heap.push { cls := .type "dict", data := .dict #[] }) scope.names } := by
  have hfree : ∀ y ∈ scope.names, y.2 = .free → ∃ c, X.env.cells.lookup y.1 = some c := fun y hy e => by
    rcases ok.free y hy e with k | k
    · exact I.ok.has _ (.inl k)
    · exact I.ok.has _ (.inr k)
  generalize hcenv : compEnvC scope (cellsFrom (s.heap.objs.size + 1) scope.names (cloFrom X.env.cells scope.names [])) s.heap.objs.size X.env = cenv
  have kp : ∀ b o, s.heap.get? b = some o → (pushCells (s.heap.push { cls := .type "dict", data := .dict #[] }) scope.names).get? b = some o := fun b o e => pushCells_keeps _ _ _ _ (Heap.get?_push_of_some _ e)
  have hL : cenv.locals = s.heap.objs.size := by rw [← hcenv]; rfl
  have hcl : cenv.cells = cellsFrom (s.heap.objs.size + 1) scope.names (cloFrom X.env.cells scope.names []) := by rw [← hcenv]; rfl
  have hsc : cenv.scope = relS scope X.env.scope := by rw [← hcenv]; rfl
  rw [← Heap.size_push s.heap { cls := .type "dict", data := .dict #[] }] at hcl
  have cm : ∀ {y c}, (y, c) ∈ cloFrom X.env.cells scope.names [] → X.env.cells.lookup y = some c ∧ c < s.heap.objs.size := fun {y c} hm => by
    rcases cloFrom_mem hm with hm | ⟨h1, rfl⟩
    · cases hm
    · obtain ⟨c, hc⟩ := hfree _ h1 rfl
      rw [hc]
      obtain ⟨w, z⟩ := I.cell _ _ hc
      exact ⟨rfl, z.lt⟩
  have mem : ∀ {y c}, cenv.cells.lookup y = some c → (X.env.cells.lookup y = some c ∧ c < s.heap.objs.size) ∨ (s.heap.objs.size + 1 ≤ c ∧ CellAt (pushCells (s.heap.push { cls := .type "dict", data := .dict #[] }) scope.names) c none) := fun {y c} e => by
    rw [hcl] at e
    rcases cells_mem (PySem.mem_of_lookup e) with hm | ⟨_, h2, h3⟩
    · exact .inl (cm hm)
    · rw [Heap.size_push] at h2; exact .inr ⟨h2, h3⟩
  have look : ∀ {y}, scope.names.lookup y = some .free → ∃ c, cenv.cells.lookup y = some c ∧ X.env.cells.lookup y = some c := fun {y} hl => by
    have hy : (y, NameKind.free) ∈ scope.names := PySem.mem_of_lookup hl
    obtain ⟨c', e'⟩ := mem_lookup (cells_acc (names := scope.names) (n := (s.heap.push { cls := .type "dict", data := .dict #[] }).objs.size) (cloFrom_has (cells := X.env.cells) (acc := []) hy))
    rw [← hcl] at e'
    refine ⟨c', e', ?_⟩
    rw [hcl] at e'
    rcases cells_mem (PySem.mem_of_lookup e') with hm | ⟨h1, _, _⟩
    · exact (cm hm).1
    · have := ok.uniq _ h1
      rw [hl] at this; cases this
  have okB : (X.blk s H scope cenv fp).Ok := by
    refine ⟨I.ok.mod, by show cenv.scope.kind = _; rw [hsc]; exact ok.kind, by show cenv.globals = _; rw [← hcenv]; exact I.ok.glob, by show cenv.builtins = _; rw [← hcenv]; exact I.ok.blt, by show s.heap.objs.size ≤ cenv.locals; rw [hL]; exact Nat.le_refl _,
      fun y z c e1 e2 => ?_, fun y hy => ?_, fun y c z e => ?_, I.ok.hd, I.ok.frames, .inl rfl, fun b hb => ⟨?_, fun y c e z => ?_⟩, I.bs, Nat.le_trans I.ok.bsz I.sz, fun b o e hb => ?_, fun b hb z => ?_, I.stack, I.stkFree⟩
    · have e1 : cenv.cells.lookup y = some c := e1
      have e2 : cenv.cells.lookup z = some c := e2
      rw [hcl] at e1 e2
      refine cells_inj (fun p hp => ?_) (fun y z c a b => I.ok.inj y z c (cm a).1 (cm b).1) (PySem.mem_of_lookup e1) (PySem.mem_of_lookup e2)
      rw [Heap.size_push]
      exact Nat.lt_succ_of_lt (cm (y := p.1) (c := p.2) hp).2
    · show ∃ c, cenv.cells.lookup y = some c
      have key : ∀ k, cenv.kindOf y = some k → (k = .cell ∨ k = .free) → ∃ c, cenv.cells.lookup y = some c := fun k hk hk' => by
        unfold Env.kindOf at hk
        rw [hsc] at hk
        obtain ⟨k', e, r⟩ := lookup_relS hk
        have : k' = .cell ∨ k' = .free := by
          rcases r with rfl | ⟨rfl, _⟩
          · exact hk'
          · exact .inr rfl
        rcases this with rfl | rfl
        · obtain ⟨c, hm⟩ := cells_has (n := (s.heap.push { cls := .type "dict", data := .dict #[] }).objs.size) (acc := cloFrom X.env.cells scope.names []) (PySem.mem_of_lookup e)
          obtain ⟨c', e'⟩ := mem_lookup hm
          exact ⟨c', by rw [hcl]; exact e'⟩
        · obtain ⟨c, h1, _⟩ := look e
          exact ⟨c, h1⟩
      rcases hy with hy | hy
      · exact key _ hy (.inl rfl)
      · exact key _ hy (.inr rfl)
    · have z : (scope.names.lookup y == some NameKind.cell) = true := z
      have z : scope.names.lookup y = some .cell := by simpa using z
      have e : cenv.cells.lookup y = some c := e
      rw [hcl] at e
      rcases cells_mem (PySem.mem_of_lookup e) with hm | ⟨_, h2, _⟩
      · rcases cloFrom_mem hm with hm | ⟨h1, _⟩
        · cases hm
        · have q := ok.uniq _ h1
          rw [z] at q; cases q
      · rw [Heap.size_push] at h2
        exact Nat.le_of_succ_le h2
    · show b ≠ cenv.locals
      rw [hL]; exact Nat.ne_of_lt (hfp b hb).2
    · have e : cenv.cells.lookup y = some c := e
      rcases mem e with ⟨h1, _⟩ | ⟨h1, _⟩
      · exact (hfp b hb).1.2.2.2.2.1 y c h1 z
      · have h2 : s.heap.objs.size + 1 ≤ b := by rw [← z]; exact h1
        exact absurd (Nat.lt_of_lt_of_le (hfp b hb).2 (Nat.le_of_succ_le h2)) (Nat.lt_irrefl _)
    · rcases (hfp b hb).1.2.2.2.1 with z | z
      · exact I.ok.noex b o e z
      · exact absurd (Nat.lt_of_lt_of_le (Heap.lt_size e) (Nat.le_trans I.ok.bsz z)) (Nat.lt_irrefl _)
    · rcases List.mem_cons.mp (I.stkSub b z) with z | z
      · exact (hfp b hb).1.2.1 z
      · exact (hfp b hb).1.2.2.1 z
  refine ⟨okB, rfl, I.bare, Un.kept kp, ⟨fun _ => none, ?_, fun i y av e1 e2 e3 => ?_⟩, fun y c e => ?_, ?_, fun y c e => ?_, fun p hp => ?_, I.hok.kept kp, by rw [wipe_length]; exact I.len⟩
  · show Heap.Ns _ cenv.locals _
    rw [hL]
    exact Heap.Ns.keeps (Heap.Ns.new ..) fun b o e => pushCells_keeps _ _ _ _ e
  · obtain ⟨e2, hne⟩ := wipe_some e2
    have hfr : scope.names.lookup y = some .free ∧ (cenv.kindOf y = some .cell ∨ cenv.kindOf y = some .free) := by
      have key : ∀ k, cenv.scope.names.lookup y = some k → k = .local ∨ k = .cell ∨ k = .free → scope.names.lookup y = some .free ∧ (cenv.kindOf y = some .cell ∨ cenv.kindOf y = some .free) := fun k hk hk' => by
        have hk0 := hk
        rw [hsc] at hk
        obtain ⟨k', e, r⟩ := lookup_relS hk
        have no : ¬ (k' = .local ∨ k' = .cell) := fun hh => by
          rcases ok.own _ (PySem.mem_of_lookup e) hh with e' | e'
          · obtain ⟨p, hp, hpy⟩ := List.mem_map.mp e'
            have e3 := ok.ix p hp
            have : p.1 = y := hpy
            rw [this] at e3
            exact hne (List.mem_map.mpr ⟨p, hp, nodup_ix hN e3 e1⟩)
          · exact e' (List.mem_of_getElem? e1)
        rcases r with rfl | ⟨rfl, rfl⟩
        · rcases hk' with rfl | rfl | rfl
          · exact absurd (.inl rfl) no
          · exact absurd (.inr rfl) no
          · exact ⟨e, .inr hk0⟩
        · exact ⟨e, .inl hk0⟩
      have e3 : Vis cenv.scope y := e3
      rcases e3 with e3 | e3 | e3
      · exact key _ e3 (.inl rfl)
      · exact key _ e3 (.inr (.inl rfl))
      · exact key _ e3 (.inr (.inr rfl))
    obtain ⟨m, hn, hl⟩ := I.loc
    have hvis : Vis X.env.scope y := (ok.free _ (PySem.mem_of_lookup hfr.1) rfl).elim (fun k => .inr (.inl k)) (fun k => .inr (.inr k))
    obtain ⟨w, r, q⟩ := hl i y av e1 e2 hvis
    refine ⟨w, r, .inr ⟨hfr.2, ?_⟩⟩
    obtain ⟨c, h1, h2⟩ := look hfr.1
    rcases q with ⟨k, _⟩ | ⟨_, c', e', z⟩
    · have k : X.env.scope.names.lookup y = some .local := k
      rcases ok.free _ (PySem.mem_of_lookup hfr.1) rfl with k' | k' <;> rw [show X.env.scope.names.lookup y = _ from k'] at k <;> cases k
    · rw [h2] at e'; cases e'
      exact ⟨c, h1, z.keeps kp⟩
  · have e : cenv.cells.lookup y = some c := e
    rcases mem e with ⟨h1, _⟩ | ⟨_, z⟩
    · obtain ⟨w, z⟩ := I.cell y c h1
      exact ⟨w, z.keeps kp⟩
    · exact ⟨_, z⟩
  · show H cenv.locals = none
    rw [hL]; exact I.hok.fresh (Nat.le_refl _)
  · have e : cenv.cells.lookup y = some c := e
    rcases mem e with ⟨h1, _⟩ | ⟨h1, _⟩
    · exact I.freeC y c h1
    · exact I.hok.fresh (Nat.le_of_succ_le h1)
  · exact absurd (show p ∈ ([] : List (Addr × Obj)) ++ [] from hp) (by simp)
/-- an item appended to a tracked list -/
theorem app_ok {E : Value → Shared → Prop} {D : Addr} {xs : List V} {y : V} {v : Value} {Q : Value → Shared → Prop} (I : Inv X pins σ H s) (hD : H D = some (.lst xs)) (hz : xs.length < sizeLine) (r : RelV y v)
    (h : ∀ s', Inv X pins σ (upd H D (.lst (xs ++ [y]))) s' → Q .none s') : wpAny (model X.prog X.w) X.A (call (.builtin "list.append") [.ref D, v]) Q E s := by
  obtain ⟨hz', its, n, ri, e⟩ := I.hok D _ hD
  have hl := ri.length
  refine append_at (hsz := by rw [List.size_toArray]; omega) e fun h' sb ho' => ?_
  refine h { s with heap := h' } (I.write (t' := s.toks) (by rw [hD]; trivial) (.inl rfl) (fun b u hb q => (sb.2 b hb).trans q) ⟨_, ho'⟩ ⟨by rw [List.length_append]; exact hz, its ++ [v], n + 1, ri.append (.cons r .nil), ?_⟩)
  rw [ho']
  simp
/-- a clause's tests -/
def PTs (X : Cx) (ifs : List Expr) (t : TT) : Prop :=
  ∀ (pins : List (Addr × Obj)) (s : Shared) (σ : St) (H : Hp) (Q : Bool → Hp → Prop), Inv X pins σ H s → t σ H Q →
    wpAny (model X.prog X.w) X.A (forIn ifs true fun c r => if r = true then do let ok ← isTrue c X.env (eval c X.env); pure (ForInStep.yield ok) else pure (ForInStep.yield r)) (TP X pins σ Q) X.xe s
def tYes : TT := fun _ H Q => Q true H
theorem pts_nil : PTs X [] tYes := fun _ _ _ H _ I h => wpAny_tests_nil ⟨H, I, h⟩
theorem pts_one {c : Expr} {t : TT} (h : PT X c t) : PTs X [c] t := fun pins s σ H Q I hw => wpAny_tests_one (h pins s σ H Q I hw)
end
theorem thnF {α : Type} {t : Sem α} {Q Q' : α → Shared → Prop} {M : Model} {A : Around} {E : Value → Shared → Prop} {s : Shared} (h : wpAny M A t Q (fun _ _ => False) s) (hQ : ∀ a s, Q a s → Q' a s) : wpAny M A t Q' E s := wpAny_mono h hQ fun _ _ z => False.elim z
/-- the loop of a list comprehension's block, the target of any form (codeAny_compLoop_tests asks a target that no tuple goes to; statement and proof follow it, PyProof/CompMap.lean:41-61, with the step letOwnedTupleGo kept) -/
theorem compLoop_any {prog : Program} {w : World} {A : Around} {R : Result → Shared → Prop} {s : Shared} {elt target iter : Expr} {ifs : List Expr} {scope : Scope} {pos : Pos} {it acc : Value} {env : Env} (I : Nat → Shared → Prop)
    (turn : ∀ n s, I n s → wpAny (model prog w) A (pyNext it) (fun r s₁ => match r with
      | none => R (.ok .next) s₁
      | some v => wpAny (model prog w) A (letOwnedTupleGo target it v) (fun _ s₁' => wpAny (model prog w) A (assign target env v) (fun _ s₂ =>
          wpAny (model prog w) A (forIn ifs true fun c r => if r = true then do let ok ← isTrue c env (eval c env); pure (ForInStep.yield ok) else pure (ForInStep.yield r)) (fun ok s₃ =>
            if ok = true then wpAny (model prog w) A (eval elt env) (fun x s₄ =>
              wpAny (model prog w) A (call (.builtin "list.append") [acc, x]) (fun _ s₅ => ∃ m, m < n ∧ I m s₅) (notedBy (model prog w) A env fun e s' => R (.error e) s') s₄) (notedBy (model prog w) A env fun e s' => R (.error e) s') s₃
            else ∃ m, m < n ∧ I m s₃) (notedBy (model prog w) A env fun e s' => R (.error e) s') s₂) (notedBy (model prog w) A env fun e s' => R (.error e) s') s₁') (notedBy (model prog w) A env fun e s' => R (.error e) s') s₁) (notedBy (model prog w) A env fun e s' => R (.error e) s') s)
    (n : Nat) (h : I n s) :
    codeAny (model prog w) A (.compLoop (.ListComp elt [⟨target, iter, ifs, 0⟩] scope pos) 0 it acc env) R s := by
  refine codeAny_loop rfl I (fun n s hI => ?_) n h
  show wpAny _ A ((compTurn (.ListComp elt [⟨target, iter, ifs, 0⟩] scope pos) 0 it acc env).onRaise (fun x => do noteFrame x env; theTreesLotGoes x)) _ _ s
  refine wpAny_noted ?_
  rw [compTurn_list]
  refine wpAny_bind (wpAny_standAt (wpAny_bind (wpAny_mono (turn n s hI) (fun r s₁ h₁ => ?_) fun _ _ h' => h')))
  cases r with
  | none => exact wpAny_pure h₁
  | some v =>
    refine wpAny_bind (wpAny_mono h₁ (fun _ s₁' h₁' => ?_) fun _ _ h' => h')
    refine wpAny_bind (wpAny_mono h₁' (fun _ s₂ h₂ => wpAny_bind (wpAny_mono h₂ (fun ok s₃ h₃ => ?_) fun _ _ h' => h')) fun _ _ h' => h')
    cases ok with
    | false => exact wpAny_pure ⟨rfl, h₃⟩
    | true =>
      exact wpAny_bind (wpAny_bind (wpAny_mono h₃ (fun x s₄ h₄ => wpAny_bind (wpAny_mono h₄ (fun _ s₅ h₅ => wpAny_pure (wpAny_pure ⟨rfl, h₅⟩)) fun _ _ h' => h')) fun _ _ h' => h'))
section
variable {X : Cx}
/-- [elt for target in iter if ..]: D the new list; W by the turn and a measure, Nx what a turn is to reach -/
def tLc (wi : TI) (g : TG) (tt : TT) (te : TE) (vs : List Nat) : TE := fun σ H Q => wi σ H fun J H1 => ∀ D, H1 D = none → ∃ W : Nat → Nat → Hp → Prop, (∃ m, W 0 m (upd H1 D (.lst []))) ∧ ∀ i m H, W i m H →
  (J.stop i H ∧ Q (.ref D) H) ∨ (J.go i H ∧ ∃ Nx : Hp → Prop, (∀ H', Nx H' → ∃ m', m' < m ∧ W (i + 1) m' H') ∧ ∀ x H', J.yld i H x H' → g x (wipe σ vs) H' fun σ2 H2 => wipe σ2 vs = wipe σ vs ∧ tt σ2 H2 fun b H3 =>
    if b = true then te σ2 H3 fun y H4 => ∃ acc, H4 D = some (.lst acc) ∧ acc.length < sizeLine ∧ Nx (upd H4 D (.lst (acc ++ [y]))) else Nx H3)
theorem lc_core {pins : List (Addr × Obj)} {s : Shared} {σ : St} {H : Hp} {Q : VK} {elt tg iter : Expr} {ifs : List Expr} {scope : Scope} {own : List (Str × Nat)} {pos pos' : Pos} {wi : TI} {g : TG} {tt : TT} {te : TE} {use : Option (Value → Sem Unit)} {Qf : Value → Shared → Prop}
    (hc : X.calm = true) (hN : X.N.Nodup) (I : Inv X pins σ H s) (hi : PI X tg iter wi) (ok : BlkOk X.N X.env.scope scope own)
    (hg : ∀ (s : Shared) (H : Hp) (C : Addr) (cl : List (Str × Addr)) (fp : List Addr), PG (X.blk s H scope (compEnvC scope cl C X.env) fp) tg g) (ht : ∀ (s : Shared) (H : Hp) (C : Addr) (cl : List (Str × Addr)) (fp : List Addr), PTs (X.blk s H scope (compEnvC scope cl C X.env) fp) ifs tt)
    (he : ∀ (s : Shared) (H : Hp) (C : Addr) (cl : List (Str × Addr)) (fp : List Addr), PE (X.blk s H scope (compEnvC scope cl C X.env) fp) elt te) (hs : ∀ x, foldedSetIterable iter X.env x = pure x)
    (h : tLc wi g tt te (own.map (·.2)) σ H Q)
    (hRR : ∀ D C s' m H', Inv X pins σ H' s' → Q (.ref D) H' → s'.heap.Ns C m → FpOk X pins H' C → compPost (model X.prog X.w) X.A X.xe use Qf (.ref D) C (.ok .next) s') :
    wpAny (model X.prog X.w) X.A (comprehension (.ListComp elt [⟨tg, iter, ifs, 0⟩] scope pos) scope X.env pos' (newList []) false (eval iter X.env) use) Qf X.xe s := by
  have hfree : ∀ y ∈ scope.names, y.2 = .free → ∃ c, X.env.cells.lookup y.1 = some c := fun y hy e => by
    rcases ok.free y hy e with k | k
    · exact I.ok.has _ (.inl k)
    · exact I.ok.has _ (.inr k)
  refine wpAny_comprehension_free (use := use) rfl hs (closure_ok hfree) ok.kind (fun y hy e => by rw [ok.uniq y hy, e])
    (thn (hi pins s σ H _ I h) fun xv s1 hx => thn hx fun itv s2 h2 => ?_)
  obtain ⟨it, fp, tn, J, H2, e, I2, T, st2, f2, q⟩ := h2
  subst e
  refine wpAny_newObj_type (newEnv_comp ?_) (by show 0 ≤ sizeLine; decide)
  generalize hD : s2.heap.objs.size = D
  have hDn : H2 D = none := I2.hok.fresh (Nat.le_of_eq hD)
  obtain ⟨W, ⟨m0, w0⟩, turn⟩ := q D hDn
  -- the new list
  generalize hs3 : ({ s2 with heap := s2.heap.push { cls := .type "list", data := .seq ([] : List Value).toArray } } : Shared) = s3
  have I3 : Inv X pins σ (upd H2 D (.lst [])) s3 := by
    rw [← hs3]
    refine I2.laid (t' := s2.toks) (fun b o e => Heap.get?_push_of_some _ e) (Nat.le_of_eq hD) ⟨Nat.zero_le _, [], 0, .nil, ?_⟩
    rw [← hD]
    exact Heap.get?_push_size _ rfl
  have h3 : s3.heap = s2.heap.push { cls := .type "list", data := .seq ([] : List Value).toArray } := by rw [← hs3]
  have sz : ∀ b ∈ fp, b < s2.heap.objs.size := fun b hb => by
    obtain ⟨o, e, _⟩ := T.obj _ _ st2 b hb
    exact Heap.lt_size e
  have f3 : ∀ b ∈ fp, FpOk X pins (upd H2 D (.lst [])) b ∧ b < s3.heap.objs.size := fun b hb => by
    have hlt := sz b hb
    refine ⟨⟨?_, (f2 b hb).2⟩, by rw [h3, Heap.size_push]; exact Nat.lt_succ_of_lt hlt⟩
    rw [upd_ne (by rw [← hD]; exact Nat.ne_of_lt hlt)]
    exact (f2 b hb).1
  have st3 : tn 0 s3.heap := T.keep _ _ _ st2 fun b _ o e => by rw [h3]; exact Heap.get?_push_of_some _ e
  have I4 := block_start I3 ok hN f3
  have pg := hg s3 (upd H2 D (.lst [])) s3.heap.objs.size (cellsFrom (s3.heap.objs.size + 1) scope.names (cloFrom X.env.cells scope.names [])) fp
  have pt := ht s3 (upd H2 D (.lst [])) s3.heap.objs.size (cellsFrom (s3.heap.objs.size + 1) scope.names (cloFrom X.env.cells scope.names [])) fp
  have pe := he s3 (upd H2 D (.lst [])) s3.heap.objs.size (cellsFrom (s3.heap.objs.size + 1) scope.names (cloFrom X.env.cells scope.names [])) fp
  show codeAny _ _ (.compStart (.ListComp elt [⟨tg, iter, ifs, 0⟩] scope pos) 0 (.ref it) (.ref D) (compEnvC scope (cellsFrom (s3.heap.objs.size + 1) scope.names (cloFrom X.env.cells scope.names [])) s3.heap.objs.size X.env)) (compPost (model X.prog X.w) X.A X.xe use Qf (.ref D) s3.heap.objs.size) { s3 with heap := pushCells (s3.heap.push { cls := .type "dict", data := .dict #[] }) scope.names }
  have nfp : ∀ b ∈ fp, (upd H2 D (.lst [])) b = none := fun b hb => (f3 b hb).1.1
  generalize hce : compEnvC scope (cellsFrom (s3.heap.objs.size + 1) scope.names (cloFrom X.env.cells scope.names [])) s3.heap.objs.size X.env = ce at I4 pg pt pe ⊢
  have cL : ce.locals = s3.heap.objs.size := by subst hce; rfl
  generalize hH3 : upd H2 D (.lst []) = H3 at I3 I4 pg pt pe w0 nfp f3
  generalize hs4 : ({ s3 with heap := pushCells (s3.heap.push { cls := .type "dict", data := .dict #[] }) scope.names } : Shared) = s4 at I4 ⊢
  have st4 : tn 0 s4.heap := T.keep _ _ _ st3 fun b _ o e => by rw [← hs4]; exact pushCells_keeps _ _ _ _ (Heap.get?_push_of_some _ e)
  have stat : ∀ {σ' : St} {H' : Hp} {s' : Shared}, Inv (X.blk s3 H3 scope ce fp) [] σ' H' s' → (∀ b ∈ fp, H' b = none) → ∀ b ∈ fp, FpOk (X.blk s3 H3 scope ce fp) [] H' b := fun {σ' H' s'} I' hn b hb =>
    ⟨hn b hb, (I'.ok.exf b hb).1, I'.ok.exfs b hb, .inl hb, fun x c e => (I'.ok.exf b hb).2 x c e, fun p hp => absurd (show p ∈ ([] : List (Addr × Obj)) ++ [] from hp) (by simp)⟩
  have loop : codeAny (model X.prog X.w) X.A (.compLoop (.ListComp elt [⟨tg, iter, ifs, 0⟩] scope pos) 0 (.ref it) (.ref D) ce) (compPost (model X.prog X.w) X.A X.xe use Qf (.ref D) s3.heap.objs.size) s4 := by
    refine compLoop_any (fun n s' => ∃ i H', Inv (X.blk s3 H3 scope ce fp) [] (wipe σ (own.map (·.2))) H' s' ∧ tn i s'.heap ∧ (∀ b ∈ fp, H' b = none) ∧ W i n H') ?_ m0 ⟨0, H3, I4, st4, nfp, w0⟩
    rintro n s5 ⟨i, H5, I5, st5, n5, w5⟩
    rcases turn i n H5 w5 with ⟨stop, qq⟩ | ⟨go, Nx, hNx, step⟩
    · have td := T.done (X.blk s3 H3 scope ce fp) rfl rfl rfl hc i [] s5 _ H5 (fun _ _ => False) I5 (stat I5 n5) st5 stop
      refine thnF td fun r s6 ⟨hr, I6⟩ => ?_
      subst hr
      -- back in the def's context
      have I7 : Inv X pins σ H5 s6 := I3.call' (ch := fp) I6.os I6.base I6.hok I6.bare fun b hb => ⟨(f3 b hb).1.2.2.2.1, (f3 b hb).1.2.1, (f3 b hb).1.2.2.2.2.1, (f3 b hb).1.2.2.2.2.2⟩
      have nC : H5 s3.heap.objs.size = none := by
        have z : H5 ce.locals = none := I6.free
        rw [cL] at z
        exact z
      obtain ⟨m, hn, _⟩ := I6.loc
      have hn : s6.heap.Ns ce.locals m := hn
      rw [cL] at hn
      exact hRR D s3.heap.objs.size s6 m H5 I7 qq hn (I3.fpOk (Nat.le_refl _) nC)
    · have ti := T.item (X.blk s3 H3 scope ce fp) rfl rfl rfl hc i [] s5 _ H5 (fun _ _ => False) I5 (stat I5 n5) st5 go
      refine thnF ti fun r s6 ⟨u, hr, h6⟩ => ?_
      subst hr
      refine thnF h6 fun _ s7 ⟨x, H7, I7, r7, y7, st7, n7⟩ => ?_
      have I7' := I7.pinned (stat I7 n7) (T.obj _ _ st7)
      refine thnF (pg _ s7 _ H7 x u _ I7' r7 (step x H7 y7)) fun _ s8 ⟨σ8, H8, I8, hw8, q8⟩ => ?_
      refine thnF (pt _ s8 σ8 H8 _ I8 q8) fun b s9 ⟨H9, I9, q9⟩ => ?_
      -- the turn's end
      have fin : ∀ {s' : Shared} {H' : Hp}, Inv (X.blk s3 H3 scope ce fp) ([] ++ pinsAt fp s7.heap) σ8 H' s' → Nx H' → ∃ m, m < n ∧ ∃ i H', Inv (X.blk s3 H3 scope ce fp) [] (wipe σ (own.map (·.2))) H' s' ∧ tn i s'.heap ∧ (∀ b ∈ fp, H' b = none) ∧ W i m H' := fun {s' H'} I' nx => by
        obtain ⟨m', hm, w'⟩ := hNx H' nx
        have pin' : ∀ b ∈ fp, ∀ o, s7.heap.get? b = some o → s'.heap.get? b = some o ∧ H' b = none := fun b hb o e =>
          let z := I'.pin (b, o) (List.mem_append_right _ (List.mem_append_right _ (mem_pinsAt hb e)))
          ⟨z.1, z.2.1⟩
        have hl : (wipe σ (own.map (·.2))).length = σ8.length := by rw [← hw8, wipe_length]
        refine ⟨m', hm, i + 1, H', (I'.unpinned (pins := [])).weak hl (fun j v e => ?_), T.keep _ _ _ st7 fun b hb o e => (pin' b hb o e).1, fun b hb => ?_, w'⟩
        · rw [← hw8] at e
          exact (wipe_some e).1
        · obtain ⟨o, e, _⟩ := T.obj _ _ st7 b hb
          exact (pin' b hb o e).2
      cases b with
      | false =>
        simp only [Bool.false_eq_true, if_false] at q9 ⊢
        exact fin I9 q9
      | true =>
        simp only [if_true] at q9 ⊢
        refine thnF (pe _ s9 σ8 H9 _ I9 q9) fun z s10 ⟨yv, H10, I10, r10, acc, hD10, hz10, nx⟩ => ?_
        exact app_ok (X := X.blk s3 H3 scope ce fp) I10 hD10 hz10 r10 fun s11 I11 => fin I11 nx
  exact codeAny_compStart_list loop (T.self X.A 0 _ _ _ st4 loop)
/-- as a value -/
theorem pe_lc {elt tg iter : Expr} {ifs : List Expr} {scope : Scope} {own : List (Str × Nat)} {pos : Pos} {wi : TI} {g : TG} {tt : TT} {te : TE} (hc : X.calm = true) (hN : X.N.Nodup) (hi : PI X tg iter wi) (ok : BlkOk X.N X.env.scope scope own)
    (hg : ∀ (s : Shared) (H : Hp) (C : Addr) (cl : List (Str × Addr)) (fp : List Addr), PG (X.blk s H scope (compEnvC scope cl C X.env) fp) tg g) (ht : ∀ (s : Shared) (H : Hp) (C : Addr) (cl : List (Str × Addr)) (fp : List Addr), PTs (X.blk s H scope (compEnvC scope cl C X.env) fp) ifs tt)
    (he : ∀ (s : Shared) (H : Hp) (C : Addr) (cl : List (Str × Addr)) (fp : List Addr), PE (X.blk s H scope (compEnvC scope cl C X.env) fp) elt te) (hs : ∀ x, foldedSetIterable iter X.env x = pure x := by intro _; rfl) :
    PE X (.ListComp elt [⟨tg, iter, ifs, 0⟩] scope pos) (tLc wi g tt te (own.map (·.2))) := by
  intro pins s σ H Q I h
  rw [eval_ListComp]
  refine lc_core hc hN I hi ok hg ht he hs h fun D C s' m H' I' q hn f => ⟨m, hn, fun h'' sb => ?_⟩
  obtain ⟨f0, f1, f2, f3, f4, f5⟩ := f
  exact ⟨.ref D, H', I'.turned (t' := s'.toks) (fun b o hb e => (sb.2 b hb).trans e) f0 f1 f3 f4 f5, rfl, q⟩
/-- name = [..] on one line, the name a local -/
theorem ps_setLc {i : Nat} {y : Str} {py : Pos} {elt tg iter : Expr} {ifs : List Expr} {scope : Scope} {own : List (Str × Nat)} {pos spos : Pos} {wi : TI} {g : TG} {tt : TT} {te : TE} (hc : X.calm = true) (hN : X.N.Nodup) (hy : X.N[i]? = some y) (hyl : X.env.scope.names.lookup y = some .local)
    (hsw : swapsWith (.ListComp elt [⟨tg, iter, ifs, 0⟩] scope pos) (some (.Name y py)) spos.line X.env = pure true) (hi : PI X tg iter wi) (ok : BlkOk X.N X.env.scope scope own)
    (hg : ∀ (s : Shared) (H : Hp) (C : Addr) (cl : List (Str × Addr)) (fp : List Addr), PG (X.blk s H scope (compEnvC scope cl C X.env) fp) tg g) (ht : ∀ (s : Shared) (H : Hp) (C : Addr) (cl : List (Str × Addr)) (fp : List Addr), PTs (X.blk s H scope (compEnvC scope cl C X.env) fp) ifs tt)
    (he : ∀ (s : Shared) (H : Hp) (C : Addr) (cl : List (Str × Addr)) (fp : List Addr), PE (X.blk s H scope (compEnvC scope cl C X.env) fp) elt te) (hs : ∀ x, foldedSetIterable iter X.env x = pure x := by intro _; rfl) :
    PS X (.Assign [.Name y py] (.ListComp elt [⟨tg, iter, ifs, 0⟩] scope pos) spos) (tAsg (tLc wi g tt te (own.map (·.2))) (gName i)) := by
  intro pins s σ H D I h
  rw [exec_Assign_Name_used _ _ _ _ hsw]
  refine wpAny_bind (wpAny_standAt (wpAny_bind ?_))
  show wpAny _ X.A (do let _ ← comprehension (.ListComp elt [⟨tg, iter, ifs, 0⟩] scope pos) scope X.env (firstIterPos [⟨tg, iter, ifs, 0⟩] pos) (newList []) false (eval iter X.env) (some (assign (.Name y py) X.env))) _ _ s
  have h : tLc wi g tt te (own.map (·.2)) σ H (fun x H1 => gName i x σ H1 D.nx) := h
  refine wpAny_bind (thn (lc_core (Qf := fun _ s' => SP X pins D .next s') hc hN I hi ok hg ht he hs h fun L C s' m H' I' q hn f => ?_) fun _ s' hq => wpAny_pure (wpAny_pure hq))
  show wpAny _ _ (assign (.Name y py) X.env (.ref L)) _ _ _
  refine wpAny_assign_Name (store_ok2 (v := V.ref L) I' hN hy (.inl hyl) rfl (fun s2 I2 ⟨a, sb, ha⟩ => ?_) (.inr hyl))
  obtain ⟨f0, f1, f2, f3, f4, f5⟩ := f
  have haC : C ≠ a := by
    rcases ha with z | z
    · rw [z]; exact f1
    · exact fun e => f4 y a z e.symm
  refine ⟨m, hn.sameBut sb haC, fun h3 sb3 => ?_⟩
  exact ⟨_, H', I2.turned (t' := s2.toks) (fun b o hb e => (sb3.2 b hb).trans e) f0 f1 f3 f4 f5, q⟩
theorem sw_true {elt : Expr} {gs : List Comprehension} {scope : Scope} {pos py : Pos} {y : Str} {l : Nat} {env : Env} (hk : env.scope.kind = .function) (hy : env.scope.names.lookup y = some .local) (hl : (py.line == pos.line) = true)
    (ha : (scope.names.any fun (n, k) => n == y && (k == .local || k == .cell)) = false) : swapsWith (.ListComp elt gs scope pos) (some (.Name y py)) l env = pure true := by
  have ky : env.kindOf y = some .local := hy
  have hb : env.blockKind = .function := by unfold Env.blockKind; rw [hk]; rfl
  unfold swapsWith
  simp only [hb, ky, ha, Expr.pos, hl]
  rfl
end
/-! ### the forms one uses -/
/-- over a range: Pv by the turn and the heap (the new list at D within) -/
theorem lc_range {lo : Int} {n : Nat} {g : TG} {tt : TT} {te : TE} {vs : List Nat} {σ : St} {H1 : Hp} {D : Addr} {Qd : Hp → Prop} (Pv : Nat → Hp → Prop) (h0 : Pv 0 (upd H1 D (.lst [])))
    (hs : ∀ i H, i < n → Pv i H → g (.int (lo + i)) (wipe σ vs) H fun σ2 H2 => wipe σ2 vs = wipe σ vs ∧ tt σ2 H2 fun b H3 =>
      if b = true then te σ2 H3 fun y H4 => ∃ acc, H4 D = some (.lst acc) ∧ acc.length < sizeLine ∧ Pv (i + 1) (upd H4 D (.lst (acc ++ [y]))) else Pv (i + 1) H3) (hd : ∀ H, Pv n H → Qd H) :
    ∃ W : Nat → Nat → Hp → Prop, (∃ m, W 0 m (upd H1 D (.lst []))) ∧ ∀ i m H, W i m H →
      ((Itr lo n).stop i H ∧ Qd H) ∨ ((Itr lo n).go i H ∧ ∃ Nx : Hp → Prop, (∀ H', Nx H' → ∃ m', m' < m ∧ W (i + 1) m' H') ∧ ∀ x H', (Itr lo n).yld i H x H' → g x (wipe σ vs) H' fun σ2 H2 => wipe σ2 vs = wipe σ vs ∧ tt σ2 H2 fun b H3 =>
        if b = true then te σ2 H3 fun y H4 => ∃ acc, H4 D = some (.lst acc) ∧ acc.length < sizeLine ∧ Nx (upd H4 D (.lst (acc ++ [y]))) else Nx H3) := by
  refine ⟨fun i m H => m = n - i ∧ i ≤ n ∧ Pv i H, ⟨n, by simp, Nat.zero_le _, h0⟩, ?_⟩
  rintro i m H ⟨rfl, hi, p⟩
  by_cases hlt : i < n
  · refine .inr ⟨hlt, Pv (i + 1), fun H' p' => ⟨n - (i + 1), by omega, rfl, hlt, p'⟩, fun x H' y => ?_⟩
    obtain ⟨e, y⟩ := y
    subst e y
    exact hs i _ hlt p
  · have e : i = n := by omega
    subst e
    exact .inl ⟨Nat.le_refl _, hd H p⟩
/-- over a list that the block leaves as it is -/
theorem lc_list {K : PySem.W.Frag} {a : Addr} {xs : List V} {g : TG} {tt : TT} {te : TE} {vs : List Nat} {σ : St} {H1 : Hp} {D : Addr} {Qd : Hp → Prop} (Pv : Nat → Hp → Prop) (h0 : Pv 0 (upd H1 D (.lst []))) (hl : ∀ i H, i ≤ xs.length → Pv i H → SqL K H a xs)
    (hs : ∀ i x H, xs[i]? = some x → Pv i H → g x (wipe σ vs) H fun σ2 H2 => wipe σ2 vs = wipe σ vs ∧ tt σ2 H2 fun b H3 =>
      if b = true then te σ2 H3 fun y H4 => ∃ acc, H4 D = some (.lst acc) ∧ acc.length < sizeLine ∧ Pv (i + 1) (upd H4 D (.lst (acc ++ [y]))) else Pv (i + 1) H3) (hd : ∀ H, Pv xs.length H → Qd H) :
    ∃ W : Nat → Nat → Hp → Prop, (∃ m, W 0 m (upd H1 D (.lst []))) ∧ ∀ i m H, W i m H →
      ((Itl K a).stop i H ∧ Qd H) ∨ ((Itl K a).go i H ∧ ∃ Nx : Hp → Prop, (∀ H', Nx H' → ∃ m', m' < m ∧ W (i + 1) m' H') ∧ ∀ x H', (Itl K a).yld i H x H' → g x (wipe σ vs) H' fun σ2 H2 => wipe σ2 vs = wipe σ vs ∧ tt σ2 H2 fun b H3 =>
        if b = true then te σ2 H3 fun y H4 => ∃ acc, H4 D = some (.lst acc) ∧ acc.length < sizeLine ∧ Nx (upd H4 D (.lst (acc ++ [y]))) else Nx H3) := by
  refine ⟨fun i m H => m = xs.length - i ∧ i ≤ xs.length ∧ Pv i H, ⟨xs.length, by simp, Nat.zero_le _, h0⟩, ?_⟩
  rintro i m H ⟨rfl, hi, p⟩
  have q := hl i H hi p
  by_cases hlt : i < xs.length
  · refine .inr ⟨⟨xs, xs[i], q, by simp [hlt]⟩, Pv (i + 1), fun H' p' => ⟨xs.length - (i + 1), by omega, rfl, hlt, p'⟩, fun x H' y => ?_⟩
    obtain ⟨e, y⟩ := y
    subst e
    exact hs i x _ (y xs q) p
  · have e : i = xs.length := by omega
    subst e
    exact .inl ⟨⟨xs, q, Nat.le_refl _⟩, hd H p⟩
def blkC (N : List Str) (sc scope : Scope) (own : List (Str × Nat)) : Bool :=
  (match scope.kind with | .function => true | _ => false) && (scope.names.all fun y => decide (scope.names.lookup y.1 = some y.2)) && (own.all fun p => decide (N[p.2]? = some p.1)) &&
    (scope.names.all fun y => match y.2 with
      | .free => (match sc.names.lookup y.1 with | some .cell => true | some .free => true | _ => false)
      | .local => decide (y.1 ∈ own.map (·.1)) || decide (y.1 ∉ N)
      | .cell => decide (y.1 ∈ own.map (·.1)) || decide (y.1 ∉ N)
      | _ => true)
theorem blkOk_by {N : List Str} {sc scope : Scope} {own : List (Str × Nat)} (h : blkC N sc scope own = true) : BlkOk N sc scope own := by
  unfold blkC at h
  simp only [Bool.and_eq_true, List.all_eq_true, decide_eq_true_eq] at h
  obtain ⟨⟨⟨h1, h2⟩, h3⟩, h4⟩ := h
  refine ⟨?_, h2, h3, fun y hy e => ?_, fun y hy e => ?_⟩
  · split at h1
    · assumption
    · cases h1
  · have q := h4 y hy
    simp only [e] at q
    split at q <;> first | exact .inl (by assumption) | exact .inr (by assumption) | cases q
  · have q := h4 y hy
    rcases e with e | e <;> (simp only [e, Bool.or_eq_true, decide_eq_true_eq] at q; exact q)
end L2
namespace L2
open PySem PySem.Spec PyProof.Rows
section
variable {prog : Program} {w : World} {A : Around} {R : Result → Shared → Prop} {s : Shared} {elt t0 i0 t1 i1 : Expr} {ifs0 ifs1 : List Expr} {scope : Scope} {pos : Pos} {it acc : Value} {env : Env}
end
section
variable {X : Cx}
end
end L2
namespace L2
open PySem PySem.Spec PyProof.Rows
/-! ### lists of pairs as tables -/
section
variable {κ : Type} [DecidableEq κ]
end
/-! ### a tracked dict, its keys ints and texts or tuples of these -/
section
variable {P : Program} {w : World} {H : Hp} {h : Heap} {a : Addr}
end
section
variable {X : Cx} {pins : List (Addr × Obj)} {σ : St} {H : Hp} {s : Shared} {a : Addr} {y v : V} {u r : Value} {o : Option V} {A : Around} {E : Value → Shared → Prop}
end
section
variable {X : Cx} {pins : List (Addr × Obj)} {σ : St} {H : Hp} {s : Shared} {a : Addr} {kvs : List (Key × V)} {k : Key} {u : Value} {A : Around} {E : Value → Shared → Prop}
end
/-! ### readings and rules -/
/-- the element of a subscription, not a slice -/
def NoSl (i : Expr) : Prop := ∀ ov iv, subscripted i false ov iv = operate [ov, iv] (getItem ov iv)
theorem subD_of {prog : Program} {w : World} {A : Around} {E : Value → Shared → Prop} {s : Shared} {env : Env} {value slice : Expr} {pos : Pos} {T id : String} {Q : Value → Shared → Prop}
    (hl : typeLookup (.type T) "__getitem__" = pure (some (.builtin id))) (hs : NoSl slice)
    (h : wpAny (model prog w) A (eval value env) (fun o s₁ => wpAny (model prog w) A (eval slice env) (fun i s₂ => s₂.TypeIs o T ∧ wpAny (model prog w) A (getItem o i) Q E s₂) E s₁) E s) :
    wpAny (model prog w) A (eval (.Subscript value slice pos) env) Q E s := by
  refine Subscript_ (wpAny_mono h (fun o s₁ h₁ => wpAny_mono h₁ (fun i s₂ h₂ => ?_) fun _ _ x => x) fun _ _ x => x)
  obtain ⟨hT, h₂⟩ := h₂
  unfold subscriptTail
  refine wpAny_bind ?_
  rw [getitemInPython_of_ne hT.not_modules]
  refine wpAny_bind (wpAny_specialOf hT hl ?_)
  have fin : wpAny (model prog w) A (subscripted slice false o i) (fun r s₃ => wpAny (model prog w) A (letTemporaryGo value o r >>= fun _ => pure r) Q E s₃) E s₂ := by
    rw [hs o i]
    exact wpAny_operating (wpAny_mono h₂ (fun r s₃ h₃ => wpAny_bind (wpAny_letTemporaryGo (wpAny_pure h₃))) fun _ _ x => x)
  first
    | exact wpAny_pure (wpAny_bind fin)
    | exact wpAny_bind (wpAny_pure (wpAny_bind fin))
    | exact wpAny_bind fin
section
variable {X : Cx} {o i e value : Expr} {pos pos' tpos : Pos} {td ty tv : TE}
end
/-! ### displays -/
section
variable {X : Cx} {pos : Pos}
end
/-! ### methods -/
section
variable {X : Cx} {pins : List (Addr × Obj)} {σ : St} {H : Hp} {s : Shared} {a : Addr} {y d : V} {u r : Value} {o : Option V} {A : Around} {E : Value → Shared → Prop}
end
section
variable {X : Cx} {o e f : Expr} {apos cpos : Pos} {td ty tx : TE}
end
/-! ### dict(d): a copy -/
section
variable {X : Cx} {pins : List (Addr × Obj)} {σ : St} {H : Hp} {s : Shared} {a : Addr} {kvs : List (Key × V)} {A : Around} {E : Value → Shared → Prop}
end
section
variable {X : Cx} {pins : List (Addr × Obj)} {σ : St} {H : Hp} {s : Shared} {a : Addr} {y : V} {u : Value} {A : Around} {E : Value → Shared → Prop}
end
end L2
namespace L2
open PySem PySem.Spec PyProof.Rows
section
variable {prog : Program} {w : World} {A : Around} {E : Value → Shared → Prop}
end
section
variable {X : Cx}
end
end L2
namespace L2
open PySem PySem.Spec PyProof.Rows
section
variable {X : Cx} {pins : List (Addr × Obj)} {σ : St} {H : Hp} {s : Shared} {h' : Heap}
/-! ### locking a thing while a statement runs -/
end
section
variable {X : Cx}
/-! ### one iterator just laid -/
theorem pi_one {tg : Expr} {pins : List (Addr × Obj)} {σ : St} {H : Hp} {s : Shared} {R : It → Hp → Prop} {J : It} {tn : Nat → Heap → Prop} {tk : Nat} (I : Inv X pins σ H s) (o : Obj)
    (T : Turn X.prog X.w X.K tg J [s.heap.objs.size] s.heap.objs.size tn) (st : tn 0 (s.heap.push o)) (q : R J H) : PIE X pins σ tg R (.ref s.heap.objs.size) { s with heap := s.heap.push o, toks := tk } := by
  refine ⟨s.heap.objs.size, [s.heap.objs.size], tn, J, H, rfl, I.kept fun b ob e => Heap.get?_push_of_some _ e, T, st, fun b hb => ?_, q⟩
  have e : b = s.heap.objs.size := by simpa using hb
  subst e
  exact I.fpOk (Nat.le_refl _) (I.hok.fresh (Nat.le_refl _))
end
/-! ### range with a step -/
/-- lo, lo + c, .. (n of them) -/
def Itc (lo c : Int) (n : Nat) : It := ⟨fun i _ => i < n, fun i H x H' => H' = H ∧ x = .int (lo + (i : Nat) * c), fun i _ => n ≤ i⟩
theorem turn_rangeC {P : Program} {w : World} {K : PySem.W.Frag} {tg : Expr} (it : Addr) (lo c : Int) (n : Nat) : Turn P w K tg (Itc lo c n) [it] it (fun i h => IsRangeIter h it (lo + (i : Nat) * c) ((n : Int) - (i : Nat)) c) where
  mem := by simp
  obj := fun i h st b hb => by
    have e : b = it := by simpa using hb
    subst e
    exact ⟨_, st, fun v z => nomatch z⟩
  keep := fun i h h' st k => k it (by simp) _ st
  item := by
    intro X hP hw hK hc i pins s σ H E I hf st hg
    subst hP hw hK
    obtain ⟨f0, f1, f2, f3, f4, f5⟩ := hf it (by simp)
    have W := Walks.range (prog := X.prog) (w := X.w) (I.ok.hd hc) it lo c n
    refine W.item i s _ _ hg st fun v h' tk hv st' kk => ?_
    obtain ⟨t, rfl⟩ := hv
    have I1 : Inv X pins σ H { s with heap := h', toks := tk } := I.turned (fun b o hb e => kk b o (by simpa using hb) e) f0 f1 f3 f4 f5
    exact ⟨_, rfl, go_of (s := { s with heap := h', toks := tk }) (n := "range_iterator") st' rfl rfl (by decide) ⟨.int (lo + (i : Nat) * c), H, I1, ⟨t, rfl⟩, ⟨rfl, rfl⟩, st', fun b hb => (hf b hb).1⟩⟩
  done := by
    intro X hP hw hK hc i pins s σ H E I hf st hg
    subst hP hw hK
    obtain ⟨f0, f1, f2, f3, f4, f5⟩ := hf it (by simp)
    exact wpAny_pyNext_range_end (I.ok.hd hc) st (by have : n ≤ i := hg; omega) fun h' eb => ⟨rfl, I.turned (t' := s.toks) (fun b o hb e => eb b o hb e) f0 f1 f3 f4 f5⟩
  self := fun A i s Q E st h => wpAny_pyIter_rangeiter st h
/-- range(i, j, c): small bounds, n items -/
def RgC (i j c : Int) (n : Nat) : Prop := c ≠ 0 ∧ c.natAbs < 1073741824 ∧ Builtin.Range.small i j c = true ∧ Builtin.Range.rangeSize i j c = n
theorem RgC.neg {i j : Int} (ha : -(2 ^ 62) ≤ i) (ha' : i < 2 ^ 62) (hb : -(2 ^ 62) ≤ j) (hb' : j < 2 ^ 62) : RgC i j (-1) (i - j).toNat :=
  ⟨by decide, by decide, PySem.W.small_down ha ha' hb hb', PySem.W.rangeSize_downNat i j⟩
def iRng3 (ta : TA) : TI := fun σ H R => ta σ H fun vs H1 => ∃ (i j c : Int) (n : Nat), vs = [.int i, .int j, .int c] ∧ RgC i j c n ∧ R (Itc i c n) H1
section
variable {X : Cx} {tg : Expr}
theorem pi_range3 {a b c : Expr} {ta : TA} {p pos : Pos} (hg : Gl X "range") (hm : X.mg "range" = none) (ha : PA X [a, b, c] ta)
    (hs : starEach [a, b, c] X.env = (false, eval a X.env) :: starEach [b, c] X.env := by rfl) (hpl : (backTo pos (starEach [b, c] X.env)).any (·.1) = false := by rfl) :
    PI X tg (.Call (.Name "range" p) [a, b, c] [] pos) (iRng3 ta) := by
  intro pins s σ H R I h
  refine Call_ (ld_blt I hg hm boot_range (PyProof.Rows.callWith_type1 (thn (ha pos pins s σ H _ I h) fun us s1 ⟨vs, H1, I1, r1, q1⟩ => ?_) hs hpl))
  obtain ⟨i, j, k, n, e, ⟨c0, c1, c2, c3⟩, q⟩ := q1
  subst e
  cases r1 with
  | cons r rr =>
    cases rr with
    | cons r' rr =>
      cases rr with
      | cons r'' rr =>
        cases rr
        obtain ⟨t, rfl⟩ := r
        obtain ⟨t', rfl⟩ := r'
        obtain ⟨t'', rfl⟩ := r''
        refine call_range_3 c0 ?_ (.inl (PyProof.noPylong_small c1))
        refine wpAny_pyIter_range (IsRange.new ..) c2 ?_
        have I2 : Inv X pins σ H1 { s1 with heap := s1.heap.push { cls := .type "range", data := .fields #[.int i t, .int j t', .int k t''] } } := I1.kept (t' := s1.toks) fun b o e => Heap.get?_push_of_some _ e
        refine pi_one (tk := s1.toks) I2 _ (turn_rangeC _ i k n) ?_ q
        have e1 : i + ((0 : Nat) : Int) * k = i := by simp
        have e2 : (n : Int) - ((0 : Nat) : Int) = Builtin.Range.rangeSize i j k := by rw [c3]; simp
        show IsRangeIter _ _ (i + ((0 : Nat) : Int) * k) ((n : Int) - ((0 : Nat) : Int)) k
        rw [e1, e2]
        exact Heap.get?_push_size _ rfl
end
/-- the turns of a step range, for the for loop -/
theorem for_rangeC {lo c : Int} {n : Nat} {g : TG} {tb : TS} {D : Ends} {σ : St} {H : Hp} (Pv : Nat → St → Hp → Prop) (h0 : Pv 0 σ H)
    (hs : ∀ i σ H, i < n → Pv i σ H → g (.int (lo + (i : Nat) * c)) σ H fun σ2 H2 => tb { D with nx := Pv (i + 1), ct := Pv (i + 1), bk := D.nx } σ2 H2) (hd : ∀ σ H, Pv n σ H → D.nx σ H) :
    ∃ W : Nat → Nat → St → Hp → Prop, (∃ m, W 0 m σ H) ∧ ∀ i m σ H, W i m σ H →
      ((Itc lo c n).stop i H ∧ D.nx σ H) ∨ ((Itc lo c n).go i H ∧ ∃ N : St → Hp → Prop, (∀ σ' H', N σ' H' → ∃ m', m' < m ∧ W (i + 1) m' σ' H') ∧ ∀ x H', (Itc lo c n).yld i H x H' → g x σ H' fun σ2 H2 => tb { D with nx := N, ct := N, bk := D.nx } σ2 H2) := by
  refine ⟨fun i m σ H => m = n - i ∧ i ≤ n ∧ Pv i σ H, ⟨n, by simp, Nat.zero_le _, h0⟩, ?_⟩
  rintro i m σ H ⟨rfl, hi, p⟩
  by_cases hlt : i < n
  · refine .inr ⟨hlt, Pv (i + 1), fun σ' H' p' => ⟨n - (i + 1), by omega, rfl, hlt, p'⟩, fun x H' y => ?_⟩
    obtain ⟨e, y⟩ := y
    subst e y
    exact hs i σ _ hlt p
  · have e : i = n := by omega
    subst e
    exact .inl ⟨Nat.le_refl _, hd σ H p⟩
/-! ### reversed(list) -/
section
variable {X : Cx} {tg : Expr}
end
/-! ### a str -/
/-! ### a dict's keys: any dict's entries -/
section
variable {prog : Program} {w : World} {A : Around} {E : Value → Shared → Prop} {s : Shared}
end
/-! ### a locked dict -/
section
variable {X : Cx} {pins : List (Addr × Obj)} {σ : St} {H : Hp} {s : Shared} {d : Addr} {o : Obj}
end
section
variable {P : Program} {w : World} {K : PySem.W.Frag} {tg : Expr} {d : Addr} {o : Obj} {es : Array DictEntry} {ep : Nat}
end
/-! ### for k in d, d.keys(), d.values(), d.items() -/
section
variable {X : Cx} {tg e : Expr} {td : TE} {apos cpos : Pos}
end
/-! ### enumerate(list) -/
/-! ### zip(list, list) -/
end L2
section 
namespace Bits
open PySem PyProof.Rows
theorem nat_xor_add_and (m : Nat) : ∀ n : Nat, (m ^^^ n) + 2 * (m &&& n) = m + n := by
  induction m using Nat.strongRecOn with
  | _ m ih =>
    intro n
    by_cases h0 : m = 0
    · subst h0
      simp
    · have ih' := ih (m / 2) (by omega) (n / 2)
      rw [← Nat.xor_div_two, ← Nat.and_div_two] at ih'
      have o1 := @Nat.xor_mod_two_eq_one m n
      have a1 := @Nat.and_mod_two_eq_one m n
      omega
theorem bitXor_pp {x y : Int} (hx : 0 ≤ x) (hy : 0 ≤ y) : Builtin.bitXor x y = ((x.toNat ^^^ y.toNat : Nat) : Int) := by
  have e := nat_xor_add_and x.toNat y.toNat
  rw [bitXor_and, bitAnd_pp hx hy]
  omega
end Bits
end 
section 
namespace TL
open PySem PySem.Builtin PySem.Builtin.Str PySem.StrLaws
/-! ### the list functions -/
/-! ### the model's split and partition are these -/
/-! ### computing spl and par -/
/-! ### digits -/
/-! ### words: x.split() -/
end TL
end 
namespace L2
open PySem PySem.Spec PyProof.Rows
section
variable {X : Cx} {pins : List (Addr × Obj)} {σ : St} {H : Hp} {s : Shared} {Q : VK}
end
section
variable {X : Cx}
/-! ### of a text alone -/
/-! ### of a text and a text -/
end
section
variable {X : Cx} {o e : Expr} {to te : TE}
end
end L2
namespace L2
open PySem PySem.Spec PyProof.Rows
section
variable {X : Cx}
end
/-! ### slices of a text -/
end L2
namespace Att
open PySem PySem.W PySem.Calls PyProof.Rows
/-! ### the script -/
/-! ### the attachment: holds_open's last premise (the goal 'hc' behind k_head) from a wpAny of the law's body -/
/-! ### rules over ANY heap (no ledger) from facts about the written part K: the library's own take a ledger (News) for what they write -/
section
variable {prog : Program} {w : World} {A : Around} {E : Value → Shared → Prop} {s : Shared} {K : Frag}
/-! the whole heap as the ledger: makes every rule that writes through a ledger a rule over any heap -/
end
end Att
namespace L2
open PySem PySem.Spec PyProof.Rows
end L2
namespace L2
open PySem PySem.Spec PyProof.Rows
end L2
/- THE LAST THEOREM (shape; LID, My.* are yours):
   My.Adr: a structure of the addresses that your layer names (classes, functions); My.Txt K t: a structure (Prop) of the equations over K;
   My.txt_mk : {K} {implicit addresses ..} (e1 : nsIn K mainGlobals "law" = some (some (.ref f))) (e2 : K.lookup f = some ⟨oc, od, .func (fnOf "law" "law" params body scope dV kV doc pm an cdv ct), sl⟩) (e3 : codeIn K cdv "law" = true) .. : ∃ t, My.Txt K t
set_option maxRecDepth 100000 in
set_option maxHeartbeats 0 in
theorem PySem.Challenge.cw_LID_holds : PySem.Challenge.rw_LID.Holds := by
  w_on; o_law; k_head; (case hw => w_witness2)
  k_fill
  refine L2.walk_of (l := PySem.Challenge.rw_LID) (n := 63) (k := 40) (x := "script") (CX := fun w => ..) (sp := fun _ => My.sp_law) rfl (by decide) rfl ⟨rfl, by decide, by decide⟩ (fun w h Y => PySem.W.kIn_of Y) ?F ?S ?C
  case F =>
    intro w mg fa h KX G hmg
    have T : ∃ t, My.Txt (L2.KOf KX) t := by
      dsimp only [L2.KOf]                          -- K must stand as «<heap const> w.params» for k_is
      refine' My.txt_mk ?e1 ?e2 ?e3 ..
      (case e1 => PySem.W.k_is)                    -- in the order: a name -> its address -> its object -> its parts
      (case e2 => PySem.W.k_is)
      ..
    obtain ⟨t, T⟩ := T
    have e0 := hmg.symm.trans (PySem.W.mg_of KX G T.law)
    cases e0                                       -- fa is the law's own address
    exact ⟨_, fun s u => .of_eq rfl, fun base kb nb => My.law_fn T kb nb⟩     -- if «.of_eq rfl» comes too early: refine' ⟨_, ?b, fun base kb nb => My.law_fn T kb nb⟩; exact fun s u => .of_eq rfl
  case S => exact fun w H a ns hl hO hS => ..
  case C => exact ..
(the tactic k_is has no namespace: write k_is) -/
/-! SHORT WORDS over the layer: a def of the text, its body, what a loop and a test want. -/
namespace L2
open PySem PySem.Spec PyProof.Rows
/-! ### the text by places -/
/-- the j-th statement of a class's body -/
def inClass (s : Stmt) (j : Nat) : Stmt := match s with
  | .ClassDef _ _ _ body _ _ _ _ _ _ _ => body.getD j (.Pass ⟨0, 0, 0, 0⟩)
  | _ => .Pass ⟨0, 0, 0, 0⟩
def defArgs (s : Stmt) : Arguments := match s with
  | .FunctionDef _ a _ _ _ _ _ _ _ _ => a
  | _ => { posonlyargs := [], args := [], vararg := none, kwonlyargs := [], kw_defaults := [], kwarg := none, defaults := [] }
def defBody (s : Stmt) : List Stmt := match s with
  | .FunctionDef _ _ b _ _ _ _ _ _ _ => b
  | _ => []
def defScope (s : Stmt) : Scope := match s with
  | .FunctionDef _ _ _ _ _ _ sc _ _ _ => sc
  | _ => { kind := .function, names := [], isGenerator := false, isCoroutine := false }
/-! ### no exception leaves a def -/
abbrev CX0 : CXT := fun _ _ _ _ _ _ => False
abbrev E0 : XK := fun _ _ _ => False
theorem pass0 {X : Cx} : Passes CX0 X E0 := fun _ _ _ _ _ _ _ h => h.elim
/-! ### a def (or method) of the text as it stands behind the top -/
structure Fun (K : PySem.W.Frag) (x qual : Str) (st : Stmt) (f : Addr) (fd : FuncData) : Prop where
  ex : ∃ (oc : Value) (od : Option Addr) (kV doc pm : Value) (an : Option Addr) (cdv ct : Value) (osl : Array (Option Value)),
    fd = PySem.W.fnOf x qual (defArgs st) (defBody st) (defScope st) .none kV doc pm an cdv ct ∧ K.lookup f = some ⟨oc, od, .func fd, osl⟩ ∧ PySem.W.codeIn K cdv qual = true
  kp : PySem.W.keepIn K (.ref f) = true
section
variable {P : Program} {w : World} {K : PySem.W.Frag} {mg : Str → Option Value} {base : Heap}
/-- THE RULE for a def: its body as a term of rules, and the reading of that term -/
theorem Fun.ok {x qual : Str} {st : Stmt} {f : Addr} {fd : FuncData} {N ps : List Str} {k : Nat} {sp : Sp} (F : Fun K x qual st f fd) (S : FnScope N ps (defScope st)) (len : ∀ vs H Q E, sp vs H Q E → vs.length = ps.length)
    (hbody : ∀ (cdv : Value) (A : Around) (outer : List Env) (s : Shared) (H : Hp) (vs : List V) (Q : VK) (E : XK), Room k (A.deeper (envOfC qual (defScope st) s.heap.objs.size f cdv)) → sp vs H Q E →
      ∃ t, PSs (cxOf CX0 P w K mg base N qual (defScope st) f cdv A outer s H E).nox (defBody st) t ∧ t { nx := fun _ H' => Q .non H', rt := Q } (start N vs) H) : FnOk P w K mg base CX0 (k + 1) f fd ps sp := by
  obtain ⟨oc, od, kV, doc, pm, an, cdv, ct, osl, rfl, lk, hcd⟩ := F.ex
  refine fn_of lk hcd S len fun A outer s H vs Q E hr hsp => ?_
  obtain ⟨t, h, q⟩ := hbody cdv A outer s H vs Q E hr hsp
  exact ⟨t, h.nox, q⟩
/-- how its arguments bind (no defaults): h is «fun _ _ _ _ _ _ us hl => match us, hl with | [_, _], _ => rfl», one _ a parameter -/
theorem Fun.binds {x qual : Str} {st : Stmt} {f : Addr} {fd : FuncData} {ps : List Str} (F : Fun K x qual st f fd)
    (h : ∀ (kV doc pm : Value) (an : Option Addr) (cdv ct : Value) (us : List Value), us.length = ps.length → bindArgs (PySem.W.fnOf x qual (defArgs st) (defBody st) (defScope st) .none kV doc pm an cdv ct) ⟨us, []⟩ = pure (ps.zip us)) : Binds K fd ps [] := by
  obtain ⟨oc, od, kV, doc, pm, an, cdv, ct, osl, rfl, lk, hcd⟩ := F.ex
  exact .all (h kV doc pm an cdv ct)
theorem fun_mk {x qual : Str} {st : Stmt} {f : Addr} {oc : Value} {od an : Option Addr} {osl : Array (Option Value)} {kV doc pm cdv ct : Value} (l : K.lookup f = some ⟨oc, od, .func (PySem.W.fnOf x qual (defArgs st) (defBody st) (defScope st) .none kV doc pm an cdv ct), osl⟩)
    (c : PySem.W.codeIn K cdv qual = true) (k : PySem.W.keepIn K (.ref f) = true) : Fun K x qual st f (PySem.W.fnOf x qual (defArgs st) (defBody st) (defScope st) .none kV doc pm an cdv ct) := ⟨⟨oc, od, kV, doc, pm, an, cdv, ct, osl, rfl, l, c⟩, k⟩
end
/-! ### expressions in short: the name that stands in the i-th slot -/
section
variable {X : Cx}
theorem pv (i : Nat) {x : Str} {pos : Pos} (hN : X.N[i]? = some x := by rfl) (hv : Vis X.env.scope x := by first | exact Or.inl rfl | exact Or.inr (Or.inl rfl) | exact Or.inr (Or.inr rfl)) (hd : (x == ("__debug__" : Str)) = false := by decide)
    (hcd : (x == ("__classdict__" : Str)) = false := by decide) : PE X (.Name x pos) (tVar i) := pe_var hN hv hd hcd
end
/-! ### tests -/
theorem iteF {A B : Prop} (h : B) : if false = true then A else B := by
  rw [if_neg Bool.false_ne_true]
  exact h
theorem iteT {A B : Prop} (h : A) : if true = true then A else B := by
  rw [if_pos rfl]
  exact h
theorem ite2 {c A B : Prop} [Decidable c] (h1 : c → A) (h2 : ¬ c → B) : if c then A else B := by
  by_cases h : c
  · rw [if_pos h]
    exact h1 h
  · rw [if_neg h]
    exact h2 h
/-! ### heaps -/
/-- all that was tracked is as it was -/
def Same (H H' : Hp) : Prop := ∀ b o, H b = some o → H' b = some o
theorem Same.trans {H H1 H2 : Hp} (a : Same H H1) (b : Same H1 H2) : Same H H2 := fun c o h => b c o (a c o h)
theorem Same.free {H H' : Hp} (e : Same H H') {l : Addr} (h : H' l = Option.none) : H l = Option.none := by
  cases q : H l with
  | none => rfl
  | some o =>
    rw [e l o q] at h
    cases h
theorem Same.seq {K : PySem.W.Frag} {H H' : Hp} {a : Addr} {xs : List V} (e : Same H H') (h : SqL K H a xs) : SqL K H' a xs := by
  rcases h with (h | ⟨o, h⟩) | h
  · exact .inl (.inl (e _ _ h))
  · exact .inl (.inr ⟨o, e _ _ h⟩)
  · exact .inr h
/-! ### a dict's pairs: keys that differ -/
section
variable {κ : Type} [DecidableEq κ]
theorem nd_snoc : ∀ {l : List κ} {k : κ}, l.Nodup → ¬ k ∈ l → (l ++ [k]).Nodup
  | [], k, _, _ => by simp
  | a :: r, k, h, hk => by
    obtain ⟨h1, h2⟩ := List.nodup_cons.mp h
    show (a :: (r ++ [k])).Nodup
    refine List.nodup_cons.mpr ⟨fun m => ?_, nd_snoc h2 fun m => hk (List.mem_cons.mpr (Or.inr m))⟩
    rcases List.mem_append.mp m with q | q
    · exact h1 q
    · exact hk (List.mem_cons.mpr (Or.inl (List.mem_singleton.mp q).symm))
end
/-! ### lists -/
theorem at_of {xs : List V} {z : Int} {j : Nat} {v : V} (e : z = (j : Int)) (h : xs[j]? = some v) : atI xs z = some v := by
  rw [e]
  exact atI_nat h
theorem nd_ix {α : Type} {l : List α} (hN : l.Nodup) {i j : Nat} {x : α} (a : l[i]? = some x) (b : l[j]? = some x) : i = j := by
  obtain ⟨h1, e1⟩ := List.getElem?_eq_some_iff.mp a
  obtain ⟨h2, e2⟩ := List.getElem?_eq_some_iff.mp b
  exact (List.getElem_inj hN).mp (e1.trans e2.symm)
end L2
end
section
section
set_option Elab.async false
set_option linter.all false
set_option maxRecDepth 100000
set_option maxHeartbeats 2000000
namespace L2
open PySem PySem.Spec PyProof.Rows
open PySem.W (WData Codec OpenSpec Well WellAll ReadsW ReadsAllW)
/-! ### an answer as data -/
mutual
/-- x stands for the datum d, lists and tuples all the way -/
inductive Dw (K : PySem.W.Frag) (H : Hp) : V → WData → Prop
  | non : Dw K H .non .none
  | bl (b : Bool) : Dw K H (.bl b) (.bool b)
  | int (i : Int) : Dw K H (.int i) (.int i)
  | str (x : Str) : Dw K H (.str x) (.str x)
  | byt (b : Array UInt8) : Dw K H (.byt b) (.bytes b.toList)
  | lst {a : Addr} {xs : List V} {ds : List WData} : SqL K H a xs → DwAll K H xs ds → Dw K H (.ref a) (.list ds)
  | tup {a : Addr} {xs : List V} {ds : List WData} : SqT K H a xs → DwAll K H xs ds → Dw K H (.ref a) (.tuple ds)
inductive DwAll (K : PySem.W.Frag) (H : Hp) : List V → List WData → Prop
  | nil : DwAll K H [] []
  | cons {v : V} {vs : List V} {d : WData} {ds : List WData} : Dw K H v d → DwAll K H vs ds → DwAll K H (v :: vs) (d :: ds)
end
theorem dw_ints {K : PySem.W.Frag} {H : Hp} : ∀ ns : List Int, DwAll K H (ns.map V.int) (ns.map WData.int)
  | [] => .nil
  | n :: r => .cons (.int n) (dw_ints r)
theorem ints_dw {K : PySem.W.Frag} {H : Hp} : ∀ (ns : List Int) (xs : List V), DwAll K H xs (ns.map WData.int) → xs = ns.map V.int
  | [], xs, h => by
    cases h
    rfl
  | n :: r, xs, h => by
    cases h with
    | cons h1 h2 =>
      cases h1
      rw [ints_dw r _ h2] <;> rfl
section
variable {P : Program} {w : World} {K : PySem.W.Frag} {H : Hp} {h : Heap} {R : PySem.W.WRecords} {cl : Str → Option Addr}
theorem sqL_at {a : Addr} {xs : List V} (hok : HOk P w H h) (KX : K.In h) (q : SqL K H a xs) : ∃ (its : List Value) (o : Obj) (n : Nat), Vals xs its ∧ h.get? a = some o ∧ o.cls = .type "list" ∧ o.data = .seq its.toArray n := by
  rcases q with q | ⟨o, its, n, e, hc, _, hd, _, hv⟩
  · obtain ⟨_, its, n, hv, e⟩ := (show ObjOk P w H h a (.lst xs) from q.ok hok)
    exact ⟨its, _, n, hv, e, rfl, rfl⟩
  · exact ⟨its.toList, o, n, hv, KX _ _ e, hc, by simp [hd]⟩
theorem sqT_at {a : Addr} {xs : List V} (hok : HOk P w H h) (KX : K.In h) (q : SqT K H a xs) : ∃ (its : List Value) (o : Obj) (n : Nat), Vals xs its ∧ h.get? a = some o ∧ o.cls = .type "tuple" ∧ o.data = .seq its.toArray n := by
  rcases q with q | ⟨o, its, n, e, hc, hd, _, hv⟩
  · obtain ⟨_, its, hv, o, e, hc, n, hd⟩ := (show ObjOk P w H h a (.tup xs) from q.ok hok)
    exact ⟨its, o, n, hv, e, hc, hd⟩
  · exact ⟨its.toList, o, n, hv, KX _ _ e, hc, by simp [hd]⟩
mutual
theorem Dw.reads (hok : HOk P w H h) (KX : K.In h) : ∀ (d : WData) (v : V) (u : Value), Dw K H v d → RelV v u → ∃ as, ReadsW R cl h u d as
  | .none, _, _, x, r => by
    cases x
    cases r
    exact ⟨_, ReadsW.none⟩
  | .bool b, _, _, x, r => by
    cases x
    cases r
    exact ⟨_, ReadsW.bool b⟩
  | .int i, _, _, x, r => by
    cases x
    obtain ⟨t, rfl⟩ := r
    exact ⟨_, ReadsW.int i t⟩
  | .str s, _, _, x, r => by
    cases x
    obtain ⟨t, rfl⟩ := r
    exact ⟨_, ReadsW.str s t⟩
  | .bytes b, _, _, x, r => by
    cases x
    obtain ⟨t, rfl⟩ := r
    exact ⟨_, ReadsW.bytes _ t⟩
  | .list ds, _, _, x, r => by
    cases x with
    | lst hs ha =>
      cases r
      obtain ⟨its, o, n, rv, ho, hc, hd⟩ := sqL_at hok KX hs
      obtain ⟨as, hr⟩ := Dw.readsAll hok KX ds _ its ha rv
      exact ⟨_, ReadsW.list ho hc hd hr⟩
  | .tuple ds, _, _, x, r => by
    cases x with
    | tup hs ha =>
      cases r
      obtain ⟨its, o, n, rv, ho, hc, hd⟩ := sqT_at hok KX hs
      obtain ⟨as, hr⟩ := Dw.readsAll hok KX ds _ its ha rv
      exact ⟨_, ReadsW.tuple ho hc hd hr⟩
  | .float _, _, _, x, _ => by cases x
  | .dict _, _, _, x, _ => by cases x
  | .bytearray _, _, _, x, _ => by cases x
  | .set _, _, _, x, _ => by cases x
  | .frozenset _, _, _, x, _ => by cases x
  | .obj _ _, _, _, x, _ => by cases x
theorem Dw.readsAll (hok : HOk P w H h) (KX : K.In h) : ∀ (ds : List WData) (vs : List V) (us : List Value), DwAll K H vs ds → Vals vs us → ∃ as, ReadsAllW R cl h us ds as
  | [], _, _, x, r => by
    cases x
    cases r
    exact ⟨_, ReadsAllW.nil⟩
  | d :: ds, _, _, x, r => by
    cases x with
    | cons h1 h2 =>
      cases r with
      | cons r1 r2 =>
        obtain ⟨as, q1⟩ := Dw.reads hok KX d _ _ h1 r1
        obtain ⟨bs, q2⟩ := Dw.readsAll hok KX ds _ _ h2 r2
        exact ⟨_, ReadsAllW.cons q1 q2⟩
end
end
/-! ### the arguments -/
mutual
/-- data that a codec tells -/
def plW : WData → Bool
  | .none => true
  | .bool _ => true
  | .int _ => true
  | .str _ => true
  | .bytes _ => true
  | .list xs => plWs xs
  | .tuple xs => plWs xs
  | _ => false
def plWs : List WData → Bool
  | [] => true
  | x :: r => plW x && plWs r
end
theorem plWs_map {α : Type} {f : α → WData} (h : ∀ a, plW (f a) = true) : ∀ l : List α, plWs (l.map f) = true
  | [] => rfl
  | x :: r => by
    show (plW (f x) && plWs (r.map f)) = true
    rw [h x, plWs_map h r] <;> rfl
theorem pl_enc : ∀ (c : Codec) (a : c.denote), plW (c.enc a) = true
  | .unit, _ => rfl
  | .bool, _ => rfl
  | .int _ _, _ => rfl
  | .nat _ _, _ => rfl
  | .u8, _ => rfl
  | .bytes _ _, _ => rfl
  | .text _ _ _ _, _ => rfl
  | .list _ _ c, a => plWs_map (fun x => pl_enc c x) a
  | .pair c d, a => by
    show (plW (c.enc a.1) && (plW (d.enc a.2) && true)) = true
    rw [pl_enc c a.1, pl_enc d a.2] <;> rfl
  | .triple c d e, a => by
    show (plW (c.enc a.1) && (plW (d.enc a.2.1) && (plW (e.enc a.2.2) && true))) = true
    rw [pl_enc c a.1, pl_enc d a.2.1, pl_enc e a.2.2] <;> rfl
  | .option c, none => rfl
  | .option c, some x => pl_enc c x
theorem pl_encAll : ∀ (cs : List Codec) (a : Codec.denoteAll cs), plWs (Codec.encAll cs a) = true
  | [], _ => rfl
  | c :: cs, a => by
    show (plW (c.enc a.1) && plWs (Codec.encAll cs a.2)) = true
    rw [pl_enc c a.1, pl_encAll cs a.2] <;> rfl
theorem weight_mem : ∀ {xs : List WData} {d : WData}, d ∈ xs → d.weight ≤ WData.weightAll xs
  | [], d, h => absurd h (by simp)
  | x :: r, d, h => by
    show d.weight ≤ x.weight + 1 + WData.weightAll r
    rcases List.mem_cons.mp h with e | m
    · rw [e]
      omega
    · have z := weight_mem m
      omega
def toV : Value → V
  | .none => .non
  | .bool b => .bl b
  | .int i _ => .int i
  | .str x _ => .str x
  | .bytes b _ => .byt b
  | .ref a => .ref a
  | _ => .non
/-- a value of the arguments, its objects among A -/
def OkU (A : List Addr) : Value → Prop
  | .none => True
  | .bool _ => True
  | .int _ _ => True
  | .str _ _ => True
  | .bytes _ _ => True
  | .ref a => a ∈ A
  | _ => False
theorem OkU.mono {A B : List Addr} (h : ∀ a ∈ A, a ∈ B) : ∀ {u : Value}, OkU A u → OkU B u := fun {u} x => by
  cases u with
  | ref a => exact h a x
  | none => trivial
  | bool b => trivial
  | int i t => trivial
  | str s t => trivial
  | bytes b t => trivial
  | _ => exact False.elim x
theorem relV_toV {A : List Addr} {u : Value} (x : OkU A u) : RelV (toV u) u := by
  cases u with
  | ref a => rfl
  | none => rfl
  | bool b => rfl
  | int i t => exact ⟨t, rfl⟩
  | str s t => exact ⟨t, rfl⟩
  | bytes b t => exact ⟨t, rfl⟩
  | _ => exact False.elim x
theorem vals_toV {A : List Addr} : ∀ {vs : List Value}, (∀ u ∈ vs, OkU A u) → Vals (vs.map toV) vs
  | [], _ => .nil
  | u :: r, h => .cons (relV_toV (h u (List.mem_cons_self ..))) (vals_toV fun x hx => h x (List.mem_cons_of_mem _ hx))
/-- an object of the arguments -/
def ArgOb (h : Heap) (A : List Addr) (a : Addr) : Prop := ∃ vs : List Value, vs.length ≤ sizeLine ∧ (∀ u ∈ vs, OkU A u) ∧
  (h.get? a = some { cls := .type "list", data := .seq vs.toArray } ∨ h.get? a = some { cls := .type "tuple", data := .seq vs.toArray })
theorem ArgOb.mono {h : Heap} {A B : List Addr} {a : Addr} (k : ∀ a ∈ A, a ∈ B) (x : ArgOb h A a) : ArgOb h B a := by
  obtain ⟨vs, h1, h2, h3⟩ := x
  exact ⟨vs, h1, fun u hu => (h2 u hu).mono k, h3⟩
theorem wellAll_len {P : Params} {h : Heap} : ∀ {vs : List Value} {ds : List WData}, WellAll P h vs ds → vs.length = ds.length
  | _, _, .nil => rfl
  | _, _, .cons _ b => by
    show _ + 1 = _ + 1
    rw [wellAll_len b]
theorem well_list {P : Params} {h : Heap} {v : Value} {ds : List WData} (x : Well P h v (.list ds)) : ∃ (a : Addr) (vs : List Value), v = .ref a ∧ h.get? a = some { cls := .type "list", data := .seq vs.toArray } ∧ WellAll P h vs ds := by
  cases x with
  | list ho hall => exact ⟨_, _, rfl, ho, hall⟩
theorem well_tuple {P : Params} {h : Heap} {v : Value} {ds : List WData} (x : Well P h v (.tuple ds)) : ∃ (a : Addr) (vs : List Value), v = .ref a ∧ h.get? a = some { cls := .type "tuple", data := .seq vs.toArray } ∧ WellAll P h vs ds := by
  cases x with
  | tuple ho hall => exact ⟨_, _, rfl, ho, hall⟩
theorem well_cons {P : Params} {h : Heap} {us : List Value} {d : WData} {ds : List WData} (x : WellAll P h us (d :: ds)) : ∃ (v : Value) (vs : List Value), us = v :: vs ∧ Well P h v d ∧ WellAll P h vs ds := by
  cases x with
  | cons a b => exact ⟨_, _, rfl, a, b⟩
theorem line_of {n : Nat} (h : n ≤ 1048576) : n ≤ sizeLine := Nat.le_trans h (by decide)
section
variable {P : Params} {h : Heap}
mutual
theorem area_one : ∀ (d : WData) (v : Value), Well P h v d → plW d = true → d.weight ≤ 1048576 → ∃ A : List Addr, OkU A v ∧ ∀ a ∈ A, ArgOb h A a
  | .none, _, x, _, _ => by
    cases x
    exact ⟨[], trivial, fun a m => absurd m (by simp)⟩
  | .bool b, _, x, _, _ => by
    cases x
    exact ⟨[], trivial, fun a m => absurd m (by simp)⟩
  | .int i, _, x, _, _ => by
    cases x
    exact ⟨[], trivial, fun a m => absurd m (by simp)⟩
  | .str s, _, x, _, _ => by
    cases x
    exact ⟨[], trivial, fun a m => absurd m (by simp)⟩
  | .bytes b, _, x, _, _ => by
    cases x
    exact ⟨[], trivial, fun a m => absurd m (by simp)⟩
  | .list ds, _, x, p, z => by
    obtain ⟨a, vs, rfl, ho, hall⟩ := well_list x
    have z2 : WData.weightAll ds ≤ 1048576 := z
    obtain ⟨A, h1, h2⟩ := area_all ds _ hall p fun d hd => Nat.le_trans (weight_mem hd) z2
    have k : ∀ b ∈ A, b ∈ a :: A := fun b hb => List.mem_cons_of_mem _ hb
    refine ⟨a :: A, List.mem_cons_self .., fun b hb => ?_⟩
    rcases List.mem_cons.mp hb with e | m
    · rw [e]
      exact ⟨vs, line_of (by rw [wellAll_len hall]; exact Nat.le_trans (PySem.W.length_le_weightAllW ds) z2), fun u hu => (h1 u hu).mono k, .inl ho⟩
    · exact (h2 b m).mono k
  | .tuple ds, _, x, p, z => by
    obtain ⟨a, vs, rfl, ho, hall⟩ := well_tuple x
    have z2 : WData.weightAll ds ≤ 1048576 := z
    obtain ⟨A, h1, h2⟩ := area_all ds _ hall p fun d hd => Nat.le_trans (weight_mem hd) z2
    have k : ∀ b ∈ A, b ∈ a :: A := fun b hb => List.mem_cons_of_mem _ hb
    refine ⟨a :: A, List.mem_cons_self .., fun b hb => ?_⟩
    rcases List.mem_cons.mp hb with e | m
    · rw [e]
      exact ⟨vs, line_of (by rw [wellAll_len hall]; exact Nat.le_trans (PySem.W.length_le_weightAllW ds) z2), fun u hu => (h1 u hu).mono k, .inr ho⟩
    · exact (h2 b m).mono k
  | .float _, _, _, p, _ => Bool.noConfusion (show false = true from p)
  | .dict _, _, _, p, _ => Bool.noConfusion (show false = true from p)
  | .bytearray _, _, _, p, _ => Bool.noConfusion (show false = true from p)
  | .set _, _, _, p, _ => Bool.noConfusion (show false = true from p)
  | .frozenset _, _, _, p, _ => Bool.noConfusion (show false = true from p)
  | .obj _ _, _, _, p, _ => Bool.noConfusion (show false = true from p)
theorem area_all : ∀ (ds : List WData) (vs : List Value), WellAll P h vs ds → plWs ds = true → (∀ d ∈ ds, d.weight ≤ 1048576) → ∃ A : List Addr, (∀ u ∈ vs, OkU A u) ∧ ∀ a ∈ A, ArgOb h A a
  | [], _, x, _, _ => by
    cases x
    exact ⟨[], fun u m => absurd m (by simp), fun a m => absurd m (by simp)⟩
  | d :: ds, _, x, p, z => by
    obtain ⟨v, vs, rfl, x1, x2⟩ := well_cons x
    have q : plW d = true ∧ plWs ds = true := Bool.and_eq_true_iff.mp p
    obtain ⟨A, a1, a2⟩ := area_one d v x1 q.1 (z d (List.mem_cons_self ..))
    obtain ⟨B, b1, b2⟩ := area_all ds vs x2 q.2 fun e he => z e (List.mem_cons_of_mem _ he)
    have kA : ∀ b ∈ A, b ∈ A ++ B := fun b hb => List.mem_append.mpr (.inl hb)
    have kB : ∀ b ∈ B, b ∈ A ++ B := fun b hb => List.mem_append.mpr (.inr hb)
    refine ⟨A ++ B, fun u hu => ?_, fun b hb => ?_⟩
    · rcases List.mem_cons.mp hu with e | m
      · rw [e]
        exact a1.mono kA
      · exact (b1 u m).mono kB
    · rcases List.mem_append.mp hb with m | m
      · exact (a2 b m).mono kA
      · exact (b2 b m).mono kB
end
end
/-- what is tracked of an argument's object -/
def hoOf (o : Obj) : Option HO := match o.data with
  | .seq vs _ => if (o.cls == Value.type "list") = true then some (.frz o (.lst (vs.toList.map toV))) else some (.frz o (.tup (vs.toList.map toV)))
  | _ => none
def argH (K : PySem.W.Frag) (h : Heap) (A : List Addr) : Hp := fun b => if b ∈ A then (if (K.lookup b).isNone = true then (h.get? b).bind hoOf else none) else none
/-- nothing is tracked but what is known to the object -/
def OnlyF (H : Hp) : Prop := ∀ b, H b = none ∨ ∃ o u, H b = some (.frz o u)
theorem hoOf_lst (vs : List Value) : hoOf { cls := .type "list", data := .seq vs.toArray } = some (.frz { cls := .type "list", data := .seq vs.toArray } (.lst (vs.map toV))) := by
  show (if (Value.type "list" == Value.type "list") = true then some (HO.frz { cls := .type "list", data := .seq vs.toArray } (.lst (vs.toArray.toList.map toV))) else some (HO.frz { cls := .type "list", data := .seq vs.toArray } (.tup (vs.toArray.toList.map toV)))) = _
  rw [if_pos (beq_self_eq_true _)]
theorem hoOf_tup (vs : List Value) : hoOf { cls := .type "tuple", data := .seq vs.toArray } = some (.frz { cls := .type "tuple", data := .seq vs.toArray } (.tup (vs.map toV))) := by
  show (if (Value.type "tuple" == Value.type "list") = true then some (HO.frz { cls := .type "tuple", data := .seq vs.toArray } (.lst (vs.toArray.toList.map toV))) else some (HO.frz { cls := .type "tuple", data := .seq vs.toArray } (.tup (vs.toArray.toList.map toV)))) = _
  rw [if_neg (by decide)]
section
variable {P : Program} {w : World} {K : PySem.W.Frag} {h : Heap} {A : List Addr}
theorem argH_at {b : Addr} {o : Obj} (hb : b ∈ A) (hk : K.lookup b = none) (e : h.get? b = some o) : argH K h A b = hoOf o := by
  unfold argH
  rw [if_pos hb, hk, if_pos (show (none : Option Obj).isNone = true from rfl), e] <;> rfl
theorem of_argH {b : Addr} {u : HO} (q : argH K h A b = some u) : b ∈ A ∧ K.lookup b = none := by
  unfold argH at q
  by_cases hb : b ∈ A
  · rw [if_pos hb] at q
    cases hk : K.lookup b with
    | none => exact ⟨hb, rfl⟩
    | some o =>
      rw [hk, if_neg (by simp)] at q
      cases q
  · rw [if_neg hb] at q
    cases q
/-- what stands tracked -/
theorem argH_is (ar : ∀ a ∈ A, ArgOb h A a) {b : Addr} {u : HO} (q : argH K h A b = some u) : K.lookup b = none ∧ ∃ vs : List Value, vs.length ≤ sizeLine ∧ (∀ u ∈ vs, OkU A u) ∧
    ((h.get? b = some { cls := .type "list", data := .seq vs.toArray } ∧ u = .frz { cls := .type "list", data := .seq vs.toArray } (.lst (vs.map toV))) ∨
     (h.get? b = some { cls := .type "tuple", data := .seq vs.toArray } ∧ u = .frz { cls := .type "tuple", data := .seq vs.toArray } (.tup (vs.map toV)))) := by
  obtain ⟨hb, hk⟩ := of_argH q
  obtain ⟨vs, h1, h2, h3⟩ := ar b hb
  refine ⟨hk, vs, h1, h2, ?_⟩
  rcases h3 with e | e
  · rw [argH_at hb hk e, hoOf_lst] at q
    exact .inl ⟨e, (Option.some.inj q).symm⟩
  · rw [argH_at hb hk e, hoOf_tup] at q
    exact .inr ⟨e, (Option.some.inj q).symm⟩
theorem argH_only (ar : ∀ a ∈ A, ArgOb h A a) : OnlyF (argH K h A) := fun b => by
  cases q : argH K h A b with
  | none => exact .inl rfl
  | some u =>
    obtain ⟨_, vs, _, _, ⟨_, e⟩ | ⟨_, e⟩⟩ := argH_is ar q
    · exact .inr ⟨_, _, by rw [e]⟩
    · exact .inr ⟨_, _, by rw [e]⟩
theorem argH_ok (ar : ∀ a ∈ A, ArgOb h A a) : HOk P w (argH K h A) h := fun b u q => by
  obtain ⟨_, vs, h1, h2, ⟨e, rfl⟩ | ⟨e, rfl⟩⟩ := argH_is ar q
  · exact ⟨e, by rw [List.length_map]; exact h1, vs, _, vals_toV h2, e⟩
  · exact ⟨e, by rw [List.length_map]; exact h1, vs, vals_toV h2, _, e, rfl, _, rfl⟩
theorem seq_inj {c c' : Value} {vs us : List Value} (e : (some { cls := c, data := .seq vs.toArray } : Option Obj) = some { cls := c', data := .seq us.toArray }) : c = c' ∧ vs = us := by
  have e1 := Option.some.inj e
  have e2 : c = c' := congrArg Obj.cls e1
  have e3 : Data.seq vs.toArray = Data.seq us.toArray := congrArg Obj.data e1
  injection e3 with e4
  refine ⟨e2, ?_⟩
  have e5 := congrArg Array.toList e4
  simpa using e5
/-- a list argument -/
theorem argL (KX : K.In h) (ar : ∀ a ∈ A, ArgOb h A a) {a : Addr} {vs : List Value} (ha : a ∈ A) (e : h.get? a = some { cls := .type "list", data := .seq vs.toArray }) : (∀ u ∈ vs, OkU A u) ∧ SqL K (argH K h A) a (vs.map toV) := by
  obtain ⟨us, h1, h2, h3⟩ := ar a ha
  have hu : us = vs := by
    rcases h3 with q | q
    · rw [e] at q
      exact (seq_inj q).2.symm
    · rw [e] at q
      exact absurd (Value.type.inj (seq_inj q).1) (by decide)
  subst hu
  refine ⟨h2, ?_⟩
  cases hk : K.lookup a with
  | none => exact .inl (.inr ⟨_, by rw [argH_at ha hk e, hoOf_lst]⟩)
  | some o =>
    have e2 := KX a o hk
    rw [e] at e2
    obtain rfl := Option.some.inj e2
    exact .inr ⟨_, us.toArray, _, hk, rfl, rfl, rfl, by rw [List.size_toArray]; exact h1, by simpa using vals_toV h2⟩
theorem argT (KX : K.In h) (ar : ∀ a ∈ A, ArgOb h A a) {a : Addr} {vs : List Value} (ha : a ∈ A) (e : h.get? a = some { cls := .type "tuple", data := .seq vs.toArray }) : (∀ u ∈ vs, OkU A u) ∧ SqT K (argH K h A) a (vs.map toV) := by
  obtain ⟨us, h1, h2, h3⟩ := ar a ha
  have hu : us = vs := by
    rcases h3 with q | q
    · rw [e] at q
      exact absurd (Value.type.inj (seq_inj q).1) (by decide)
    · rw [e] at q
      exact (seq_inj q).2.symm
  subst hu
  refine ⟨h2, ?_⟩
  cases hk : K.lookup a with
  | none => exact .inl (.inr ⟨_, by rw [argH_at ha hk e, hoOf_tup]⟩)
  | some o =>
    have e2 := KX a o hk
    rw [e] at e2
    obtain rfl := Option.some.inj e2
    exact .inr ⟨_, us.toArray, _, hk, rfl, rfl, by rw [List.size_toArray]; exact h1, by simpa using vals_toV h2⟩
mutual
theorem dw_one {Pm : Params} (KX : K.In h) (ar : ∀ a ∈ A, ArgOb h A a) : ∀ (d : WData) (v : Value), Well Pm h v d → plW d = true → OkU A v → Dw K (argH K h A) (toV v) d
  | .none, _, x, _, _ => by
    cases x
    exact .non
  | .bool b, _, x, _, _ => by
    cases x
    exact .bl b
  | .int i, _, x, _, _ => by
    cases x
    exact .int i
  | .str s, _, x, _, _ => by
    cases x
    exact .str s
  | .bytes b, _, x, _, _ => by
    cases x
    have z := Dw.byt (K := K) (H := argH K h A) b.toArray
    exact z
  | .list ds, _, x, p, hu => by
    obtain ⟨a, vs, rfl, ho, hall⟩ := well_list x
    obtain ⟨h2, hs⟩ := argL KX ar hu ho
    exact .lst hs (dw_all KX ar ds _ hall p h2)
  | .tuple ds, _, x, p, hu => by
    obtain ⟨a, vs, rfl, ho, hall⟩ := well_tuple x
    obtain ⟨h2, hs⟩ := argT KX ar hu ho
    exact .tup hs (dw_all KX ar ds _ hall p h2)
  | .float _, _, _, p, _ => Bool.noConfusion (show false = true from p)
  | .dict _, _, _, p, _ => Bool.noConfusion (show false = true from p)
  | .bytearray _, _, _, p, _ => Bool.noConfusion (show false = true from p)
  | .set _, _, _, p, _ => Bool.noConfusion (show false = true from p)
  | .frozenset _, _, _, p, _ => Bool.noConfusion (show false = true from p)
  | .obj _ _, _, _, p, _ => Bool.noConfusion (show false = true from p)
theorem dw_all {Pm : Params} (KX : K.In h) (ar : ∀ a ∈ A, ArgOb h A a) : ∀ (ds : List WData) (vs : List Value), WellAll Pm h vs ds → plWs ds = true → (∀ u ∈ vs, OkU A u) → DwAll K (argH K h A) (vs.map toV) ds
  | [], _, x, _, _ => by
    cases x
    exact .nil
  | d :: ds, _, x, p, hu => by
    obtain ⟨v, vs, rfl, x1, x2⟩ := well_cons x
    have q : plW d = true ∧ plWs ds = true := Bool.and_eq_true_iff.mp p
    exact .cons (dw_one KX ar d v x1 q.1 (hu _ (List.mem_cons_self ..))) (dw_all KX ar ds vs x2 q.2 fun u m => hu u (List.mem_cons_of_mem _ m))
end
end
/-! ### the call -/
theorem spec_call {P : Program} {w : World} {K : PySem.W.Frag} {mg mb : Str → Option Value} {CX : CXT} {k : Nat} {fa : Addr} {fd : FuncData} {ps : List Str} {sp : Sp} {s₁ : Shared} {vals : List Value} {ds : List WData} {R : PySem.W.WRecords} {cl : Str → Option Addr} {d0 : WData}
    (KX : K.In s₁.heap) (hns : s₁.heap.Ns mainGlobals mg) (hb : s₁.heap.Ns builtinsNs mb) (hbb : ∀ x : Str, x ≠ "__name__" → mb x = bootBuiltins x) (hlim : s₁.heap.NoLimit) (hg : s₁.gens = #[])
    (hwl : WellAll w.params s₁.heap vals ds) (hpl : plWs ds = true) (hwt : ∀ d ∈ ds, d.weight ≤ 1048576) (hr : Room k callerA)
    (F : ∀ base : Heap, K.In base → base.Ns mainGlobals mg → FnOk P w K mg base CX k fa fd ps sp) (hbind : ∀ (s : Shared) (us : List Value), us.length = ps.length → BindsTo s fd ⟨us, []⟩ (ps.zip us)) (hlen : ds.length = ps.length)
    (hsp : ∀ (H : Hp) (xs : List V), OnlyF H → DwAll K H xs ds → sp xs H (fun v H' => Dw K H' v d0) fun _ _ _ => False)
    (hCX : ∀ H e s', CX [] H s₁ (fun _ _ _ => False) e s' → False) :
    codeAny (model P w) callerA (.call (.ref fa) ⟨vals, []⟩) (fun r s' => ∃ u as, r = .ok (.ret u) ∧ ReadsW R cl s'.heap u d0 as ∧ OldK s₁.heap s'.heap ∧ s'.os = s₁.os ∧ AllBare s'.gens) s₁ := by
  obtain ⟨A, ho, ar⟩ := area_all ds vals hwl hpl hwt
  have hO : OnlyF (argH K s₁.heap A) := argH_only ar
  have hok : HOk P w (argH K s₁.heap A) s₁.heap := argH_ok ar
  have hS := dw_all KX ar ds vals hwl hpl ho
  have hV := vals_toV ho
  have hK : ∀ b u, argH K s₁.heap A b = some u → K.lookup b = none := fun b u q => (argH_is ar q).1
  have noA : ∀ {b : Addr} {o : Obj} {es : Array DictEntry} {ep : Nat}, s₁.heap.get? b = some o → o.data = .dict es ep → argH K s₁.heap A b = none := fun {b o es ep} e d => by
    cases q : argH K s₁.heap A b with
    | none => rfl
    | some u =>
      obtain ⟨_, vs, _, _, ⟨e2, _⟩ | ⟨e2, _⟩⟩ := argH_is ar q
      · rw [e2] at e
        cases e
        have d' : Data.seq vs.toArray _ = Data.dict es ep := d
        cases d'
      · rw [e2] at e
        cases e
        have d' : Data.seq vs.toArray _ = Data.dict es ep := d
        cases d'
  generalize argH K s₁.heap A = H at hO hok hS hK noA
  have base_of : ∀ {b : Addr} {o : Obj}, s₁.heap.get? b = some o → H b = none → (hidT s₁.heap H).get? b = some o := fun e n => hidT_get e n
  have nsK : ∀ {b : Addr} {m : Str → Option Value}, s₁.heap.Ns b m → (hidT s₁.heap H).Ns b m := fun {b m} ⟨o, es, ep, e, d, r⟩ => ⟨o, es, ep, base_of e (noA e d), d, r⟩
  have nK : ∀ b o, K.lookup b = some o → H b = none := fun b o e => by
    cases q : H b with
    | none => rfl
    | some u =>
      rw [hK b u q] at e
      cases e
  have hKb : K.In (hidT s₁.heap H) := fun b o e => base_of (KX b o e) (nK b o e)
  have hM : Mod K mg (hidT s₁.heap H) := ⟨hKb, nsK hns, ⟨mb, nsK hb, hbb⟩, let ⟨mc, h1, h2⟩ := hlim; ⟨mc, nsK h1, h2⟩⟩
  have e0 : Env0 P w K mg (hidT s₁.heap H) callerA [] s₁ H := ⟨rfl, hM, fun b o e => of_hidT e, Nat.le_of_eq (hidT_size _ _), trivial, fun b hb => absurd (show b ∈ ([] : List Addr) from hb) (by simp), hok, .of_eq hg⟩
  have hl : vals.length = ps.length := by rw [wellAll_len hwl]; exact hlen
  refine codeAny_mono ((F _ hKb (nsK hns)).run callerA [] s₁ H ⟨vals, []⟩ vals (vals.map toV) _ _ hr e0 (hbind s₁ vals hl) hV (hsp H _ hO hS)) fun r s' x => ?_
  cases r with
  | error e => exact (hCX H e s' x).elim
  | ok fl =>
    cases fl with
    | next => exact False.elim x
    | brk => exact False.elim x
    | cont => exact False.elim x
    | ret u =>
      obtain ⟨v, H', os, bare, un, hok', r', q⟩ := x
      have kept : ∀ b o, s₁.heap.get? b = some o → s'.heap.get? b = some o := fun b o e => by
        cases q2 : H b with
        | none => exact un.keep b o e q2 (by intro z; exact absurd (show b ∈ ([] : List Addr) from z) (by simp)) (by simp)
        | some u2 =>
          rcases hO b with z | ⟨ob, u3, z⟩
          · rw [q2] at z
            cases z
          · have z2 := un.frzs b ob _ z
            obtain ⟨e1, _⟩ := hok b _ z
            obtain ⟨e2, _⟩ := hok' b _ z2
            rw [e] at e1
            cases e1
            exact e2
      have KX' : K.In s'.heap := fun b o e => kept b o (KX b o e)
      obtain ⟨as, hrd⟩ := Dw.reads (R := R) (cl := cl) hok' KX' d0 v u q r'
      exact ⟨u, as, rfl, hrd, OldK.of_keep kept, os, bare⟩
/-! ### the row -/
theorem layable_weight {ds : List WData} (h : WData.layableAll ds = true) : ∀ d ∈ ds, d.weight ≤ 1048576 := fun d hd =>
  (PySem.W.layableW_iff.mp (List.all_eq_true.mp h d hd)).2.2
theorem encAll_len : ∀ (cs : List Codec) (a : Codec.denoteAll cs), (Codec.encAll cs a).length = cs.length
  | [], _ => rfl
  | c :: cs, a => by
    show (Codec.encAll cs a.2).length + 1 = cs.length + 1
    rw [encAll_len cs a.2]
/-- the goal that k_headS leaves (case hc), from the promise of the row's def: whatever the arguments that the codecs let and the row asks for, the def gives what stands for enc (f ..) -/
theorem walk_spec {r : OpenSpec} {k : Nat} {q : Program} {loose : List Str} {XP : (Str → Option Value) → Heap → Prop} {YP : World → Heap → Prop} {d : DefRec} {K : Params → PySem.W.Frag} {CX : World → CXT} {ps : List Str} {sp : World → Sp}
    (hwell : r.wellSaid = true) (hdf : d.params.defaults = []) (hlen : r.args.length = ps.length) (hr : Room k callerA)
    (hY : ∀ (w : World) (h : Heap), YP w h → (K w.params).In h)
    (F : ∀ (w : World) (mg : Str → Option Value) (fa : Addr) (h : Heap), YP w h → (K w.params).In h → h.Ns mainGlobals mg → mg d.name = some (.ref fa) →
      ∃ fd : FuncData, (∀ (s : Shared) (us : List Value), us.length = ps.length → BindsTo s fd ⟨us, []⟩ (ps.zip us)) ∧
        ∀ base : Heap, (K w.params).In base → base.Ns mainGlobals mg → FnOk r.prog w (K w.params) mg base (CX w) k fa fd ps (sp w))
    (hsp : ∀ (w : World) (H : Hp) (xs : List V) (a : Codec.denoteAll r.args), OnlyF H → Codec.withinAll r.args a = true → Codec.app r.args r.asked a = true → DwAll (K w.params) H xs (Codec.encAll r.args a) →
      sp w xs H (fun v H' => Dw (K w.params) H' v (r.ret.enc (Codec.app r.args r.f a))) fun _ _ _ => False)
    (hCX : ∀ (w : World) (H : Hp) (s : Shared) (e : Value) (s' : Shared), CX w [] H s (fun _ _ _ => False) e s' → False) :
    PySem.W.WalkOS q loose XP YP r d [] (fun f vs => PySem.call f vs) := by
  intro w s_0 s₁ mg mb G Y fa o pm cd doc dV kV ho hd hcd hD hmg hg args vals as hpre hlay hrd hwl hlo
  obtain ⟨a, e1, e2⟩ := PySem.W.os_pre_some hpre
  obtain ⟨e3, hwi⟩ := Codec.encAll_of_decAll r.args args a e1
  subst e3
  have KX := hY w _ Y
  obtain ⟨fd, hb, hF⟩ := F w mg fa _ Y KX G.T.g hmg
  refine PySem.W.enter_call (codeAny_mono (spec_call (R := []) (cl := classAt s_0.heap) (d0 := r.ret.enc (Codec.app r.args r.f a)) KX G.T.g G.T.b G.T.builtins G.T.nolimit hg hwl (pl_encAll _ _) (layable_weight hlay) hr hF hb (by rw [encAll_len]; exact hlen)
    (fun H xs hO hS => hsp w H xs a hO hwi e2 hS) fun H e s' => hCX w H s₁ e s') fun r' s' hq => ?_)
  obtain ⟨u, as', rfl, h1, h2, h3, h4⟩ := hq
  exact ⟨.inl ⟨u, _, as', rfl, fun _ => rfl, h1, (OpenSpec.post_iff hwell hwi _ _).mpr rfl, fun z => Bool.noConfusion (show false = true from z)⟩, h2, h3, h4⟩
/-- the same where the promise hangs on the written part alone -/
theorem walk_specK {r : OpenSpec} {k : Nat} {q : Program} {loose : List Str} {XP : (Str → Option Value) → Heap → Prop} {YP : World → Heap → Prop} {d : DefRec} {K : Params → PySem.W.Frag} {CX : CXT} {ps : List Str} {sp : PySem.W.Frag → Sp}
    (hwell : r.wellSaid = true) (hdf : d.params.defaults = []) (hlen : r.args.length = ps.length) (hr : Room k callerA)
    (hY : ∀ (w : World) (h : Heap), YP w h → (K w.params).In h)
    (F : ∀ (w : World) (mg : Str → Option Value) (fa : Addr) (h : Heap), YP w h → (K w.params).In h → h.Ns mainGlobals mg → mg d.name = some (.ref fa) →
      ∃ fd : FuncData, (∀ (s : Shared) (us : List Value), us.length = ps.length → BindsTo s fd ⟨us, []⟩ (ps.zip us)) ∧
        ∀ base : Heap, (K w.params).In base → base.Ns mainGlobals mg → FnOk r.prog w (K w.params) mg base CX k fa fd ps (sp (K w.params)))
    (hsp : ∀ (K : PySem.W.Frag) (H : Hp) (xs : List V) (a : Codec.denoteAll r.args), OnlyF H → Codec.withinAll r.args a = true → Codec.app r.args r.asked a = true → DwAll K H xs (Codec.encAll r.args a) →
      sp K xs H (fun v H' => Dw K H' v (r.ret.enc (Codec.app r.args r.f a))) fun _ _ _ => False)
    (hCX : ∀ (H : Hp) (s : Shared) (e : Value) (s' : Shared), CX [] H s (fun _ _ _ => False) e s' → False) :
    PySem.W.WalkOS q loose XP YP r d [] (fun f vs => PySem.call f vs) :=
  walk_spec (K := K) (CX := fun _ => CX) (sp := fun w => sp (K w.params)) hwell hdf hlen hr hY F (fun w H xs a h1 h2 h3 h4 => hsp (K w.params) H xs a h1 h2 h3 h4) fun _ H s e s' => hCX H s e s'
end L2
-- rests on (row put in by the clerk, for the bench that shows a file only what it spells): KE.SpHead KE.OsShapes
end
end
set_option linter.all false
namespace Pn
/-! sums over places or pipes -/
def sm : Nat → (Nat → Int) → Int
  | 0, _ => 0
  | m + 1, g => sm m g + g m
theorem sm_congr {m : Nat} {g h : Nat → Int} (e : ∀ i, i < m → g i = h i) : sm m g = sm m h := by
  induction m with
  | zero => rfl
  | succ m ih => simp only [sm]; rw [ih (fun i hi => e i (by omega)), e m (by omega)]
theorem sm_add {m : Nat} (g h : Nat → Int) : sm m (fun i => g i + h i) = sm m g + sm m h := by
  induction m with
  | zero => rfl
  | succ m ih => simp only [sm, ih]; omega
theorem sm_sub {m : Nat} (g h : Nat → Int) : sm m (fun i => g i - h i) = sm m g - sm m h := by
  induction m with
  | zero => rfl
  | succ m ih => simp only [sm, ih]; omega
theorem sm_zero {m : Nat} : sm m (fun _ => 0) = 0 := by
  induction m with
  | zero => rfl
  | succ m ih => simp only [sm, ih]; omega
theorem sm_mul {m : Nat} (k : Int) (g : Nat → Int) : sm m (fun i => k * g i) = k * sm m g := by
  induction m with
  | zero => simp [sm]
  | succ m ih => simp only [sm, ih]; rw [Int.mul_add]
theorem sm_nonneg {m : Nat} {g : Nat → Int} (e : ∀ i, i < m → 0 ≤ g i) : 0 ≤ sm m g := by
  induction m with
  | zero => simp [sm]
  | succ m ih =>
    simp only [sm]
    have := ih (fun i hi => e i (by omega))
    have := e m (by omega)
    omega
theorem sm_le {m : Nat} {g h : Nat → Int} (e : ∀ i, i < m → g i ≤ h i) : sm m g ≤ sm m h := by
  induction m with
  | zero => simp [sm]
  | succ m ih =>
    simp only [sm]
    have := ih (fun i hi => e i (by omega))
    have := e m (by omega)
    omega
theorem sm_all_zero {m : Nat} {g : Nat → Int} (e : ∀ i, i < m → 0 ≤ g i) (z : sm m g ≤ 0) : ∀ i, i < m → g i = 0 := by
  induction m with
  | zero => intro i hi; omega
  | succ m ih =>
    simp only [sm] at z
    have h1 := sm_nonneg (m := m) (g := g) (fun i hi => e i (by omega))
    have h2 := e m (by omega)
    intro i hi
    by_cases q : i = m
    · subst q; omega
    · exact ih (fun i hi => e i (by omega)) (by omega) i (by omega)
theorem sm_swap {m n : Nat} (g : Nat → Nat → Int) : sm m (fun i => sm n (fun p => g i p)) = sm n (fun p => sm m (fun i => g i p)) := by
  induction m with
  | zero => simp only [sm]; exact sm_zero.symm
  | succ m ih => simp only [sm]; rw [ih, sm_add]
theorem sm_single {n a : Nat} (h : a < n) (k : Nat → Int) : sm n (fun p => if a = p then k p else 0) = k a := by
  induction n with
  | zero => omega
  | succ n ih =>
    simp only [sm]
    by_cases q : a = n
    · subst q
      have : sm a (fun p => if a = p then k p else 0) = sm a (fun _ => 0) := sm_congr (fun i hi => by rw [if_neg (by omega)])
      rw [this, sm_zero]; simp
    · rw [ih (by omega), if_neg q]; simp
theorem sm_change {m k : Nat} (hk : k < m) (g h : Nat → Int) (e : ∀ i, i < m → i ≠ k → h i = g i) : sm m h = sm m g + (h k - g k) := by
  induction m with
  | zero => omega
  | succ m ih =>
    simp only [sm]
    by_cases q : k = m
    · subst q
      rw [sm_congr (g := h) (h := g) (fun i hi => e i (by omega) (by omega))]; omega
    · rw [ih (by omega) (fun i hi hn => e i (by omega) hn), e m (by omega) (by omega)]; omega
theorem bound {n : Nat} (g : Nat → Int) : ∃ M : Int, ∀ v, v < n → g v ≤ M := by
  induction n with
  | zero => exact ⟨0, fun v hv => by omega⟩
  | succ n ih =>
    obtain ⟨M, hM⟩ := ih
    refine ⟨max M (g n), fun v hv => ?_⟩
    by_cases q : v = n
    · subst q; omega
    · have := hM v (by omega); omega
/-! a net by functions -/
structure FN where
  n : Nat
  m : Nat
  a : Nat → Nat
  b : Nat → Nat
  h : Nat → Int
  c : Nat → Int
structure FN.Good (N : FN) : Prop where
  ha : ∀ i, i < N.m → N.a i < N.n
  hb : ∀ i, i < N.m → N.b i < N.n
  hh : ∀ i, i < N.m → 0 ≤ N.h i
  hc : ∀ i, i < N.m → 0 ≤ N.c i
variable {N : FN} {F G : Nat → Int} {s t : Nat} {v w : Int} {R : Nat → Bool} {pi : Nat → Int}
def dv (N : FN) (F : Nat → Int) (p : Nat) : Int := sm N.m (fun i => (if N.a i = p then F i else 0) - (if N.b i = p then F i else 0))
def Feas (N : FN) (F : Nat → Int) : Prop := ∀ i, i < N.m → 0 ≤ F i ∧ F i ≤ N.h i
def sup (s t : Nat) (v : Int) (p : Nat) : Int := (if p = s then v else 0) - (if p = t then v else 0)
structure IsFlow (N : FN) (s t : Nat) (F : Nat → Int) (v : Int) : Prop where
  feas : Feas N F
  div : ∀ p, p < N.n → dv N F p = sup s t v p
def Cut (N : FN) (R : Nat → Bool) (F : Nat → Int) : Prop := ∀ i, i < N.m → (R (N.a i) = true → R (N.b i) = false → F i = N.h i) ∧ (R (N.a i) = false → R (N.b i) = true → F i = 0)
def Pot (N : FN) (pi : Nat → Int) (F : Nat → Int) : Prop := ∀ i, i < N.m → (F i < N.h i → 0 ≤ N.c i + pi (N.a i) - pi (N.b i)) ∧ (0 < F i → N.c i + pi (N.a i) - pi (N.b i) ≤ 0)
def cost (N : FN) (F : Nat → Int) : Int := sm N.m (fun i => F i * N.c i)
/-- what goes out of R less what goes in -/
def net (N : FN) (R : Nat → Bool) (F : Nat → Int) : Int := sm N.m (fun i => (if R (N.a i) = true then F i else 0) - (if R (N.b i) = true then F i else 0))
theorem wsum (g : N.Good) (k : Nat → Int) : sm N.n (fun p => k p * dv N F p) = sm N.m (fun i => F i * (k (N.a i) - k (N.b i))) := by
  have e1 : sm N.n (fun p => k p * dv N F p) = sm N.n (fun p => sm N.m (fun i => (if N.a i = p then F i * k p else 0) - (if N.b i = p then F i * k p else 0))) := by
    refine sm_congr fun p hp => ?_
    unfold dv
    rw [← sm_mul]
    refine sm_congr fun i hi => ?_
    split <;> split <;> grind
  rw [e1, ← sm_swap]
  refine sm_congr fun i hi => ?_
  rw [sm_sub, sm_single (g.ha i hi) (fun p => F i * k p), sm_single (g.hb i hi) (fun p => F i * k p)]
  grind
theorem net_eq (g : N.Good) : net N R F = sm N.n (fun p => (if R p = true then 1 else 0) * dv N F p) := by
  rw [wsum g]
  unfold net
  refine sm_congr fun i hi => ?_
  split <;> split <;> grind
theorem across (g : N.Good) (f : IsFlow N s t F v) (hs : s < N.n) (ht : t < N.n) (rs : R s = true) (rt : R t = false) : net N R F = v := by
  rw [net_eq g]
  have : sm N.n (fun p => (if R p = true then 1 else 0) * dv N F p) = sm N.n (fun p => if s = p then v else 0) := by
    refine sm_congr fun p hp => ?_
    rw [f.div p hp]; unfold sup
    by_cases h1 : p = s
    · subst h1; rw [if_pos rs]; by_cases h2 : p = t
      · subst h2; rw [rs] at rt; cases rt
      · simp [h2]
    · by_cases h2 : p = t
      · subst h2; rw [rt]; simp; intro q; exact absurd q.symm h1
      · simp [h1, h2]; intro q; exact absurd q.symm h1
  rw [this, sm_single hs (fun _ => v)]
theorem cut_net (g : N.Good) (fF : Feas N F) (fG : Feas N G) (c : Cut N R F) : net N R G ≤ net N R F := by
  unfold net
  refine sm_le fun i hi => ?_
  have := fF i hi; have := fG i hi; have := c i hi
  cases h1 : R (N.a i) <;> cases h2 : R (N.b i) <;> simp_all
theorem cut_tight (g : N.Good) (fF : Feas N F) (fG : Feas N G) (c : Cut N R F) (e : net N R F ≤ net N R G) : Cut N R G := by
  have key : ∀ i, i < N.m → ((if R (N.a i) = true then F i else 0) - (if R (N.b i) = true then F i else 0)) - ((if R (N.a i) = true then G i else 0) - (if R (N.b i) = true then G i else 0)) = 0 := by
    refine sm_all_zero (fun i hi => ?_) ?_
    · have := fF i hi; have := fG i hi; have := c i hi
      cases h1 : R (N.a i) <;> cases h2 : R (N.b i) <;> simp_all <;> omega
    · rw [sm_sub]; unfold net at e; omega
  intro i hi
  have := key i hi; have := c i hi
  constructor
  · intro h1 h2; simp_all; omega
  · intro h1 h2; simp_all
/-- a maximal flow's value is no less than another's -/
theorem val_le (g : N.Good) (hs : s < N.n) (ht : t < N.n) (fF : IsFlow N s t F v) (fG : IsFlow N s t G w) (rs : R s = true) (rt : R t = false) (c : Cut N R F) : w ≤ v := by
  have := cut_net g fF.feas fG.feas c
  rw [across g fF hs ht rs rt, across g fG hs ht rs rt] at this
  exact this
theorem cut_move (g : N.Good) (hs : s < N.n) (ht : t < N.n) (fF : IsFlow N s t F v) (fG : IsFlow N s t G v) (rs : R s = true) (rt : R t = false) (c : Cut N R F) : Cut N R G :=
  cut_tight g fF.feas fG.feas c (by rw [across g fF hs ht rs rt, across g fG hs ht rs rt]; exact Int.le_refl _)
theorem val_eq (g : N.Good) (hs : s < N.n) (ht : t < N.n) {most : Int} {R' : Nat → Bool} (fF : IsFlow N s t F v) (fG : IsFlow N s t G w) (hv : v ≤ most) (hw : w ≤ most)
    (cF : v = most ∨ (R s = true ∧ R t = false ∧ Cut N R F)) (cG : w = most ∨ (R' s = true ∧ R' t = false ∧ Cut N R' G)) : v = w := by
  rcases cF with e | ⟨a1, a2, a3⟩
  · rcases cG with e' | ⟨b1, b2, b3⟩
    · omega
    · have := val_le g hs ht fG fF b1 b2 b3; omega
  · have h1 := val_le g hs ht fF fG a1 a2 a3
    rcases cG with e' | ⟨b1, b2, b3⟩
    · omega
    · have := val_le g hs ht fG fF b1 b2 b3; omega
theorem cost_le (g : N.Good) (fF : IsFlow N s t F v) (fG : IsFlow N s t G v) (po : Pot N pi F) : cost N F ≤ cost N G := by
  have e1 := wsum (N := N) (F := F) g pi
  have e2 := wsum (N := N) (F := G) g pi
  have e3 : sm N.n (fun p => pi p * dv N F p) = sm N.n (fun p => pi p * dv N G p) := sm_congr fun p hp => by rw [fF.div p hp, fG.div p hp]
  have e4 : sm N.m (fun i => F i * (pi (N.a i) - pi (N.b i))) = sm N.m (fun i => G i * (pi (N.a i) - pi (N.b i))) := by rw [← e1, ← e2, e3]
  have e5 : sm N.m (fun i => F i * N.c i + F i * (pi (N.a i) - pi (N.b i))) ≤ sm N.m (fun i => G i * N.c i + G i * (pi (N.a i) - pi (N.b i))) := by
    refine sm_le fun i hi => ?_
    have h1 := fF.feas i hi; have h2 := fG.feas i hi; have ⟨h3, h4⟩ := po i hi
    have e : ∀ X : Int, X * N.c i + X * (pi (N.a i) - pi (N.b i)) = X * (N.c i + pi (N.a i) - pi (N.b i)) := fun X => by grind
    rw [e, e]
    generalize N.c i + pi (N.a i) - pi (N.b i) = r at *
    by_cases q : F i ≤ G i
    · by_cases q2 : F i < N.h i
      · exact Int.mul_le_mul_of_nonneg_right q (h3 q2)
      · have : F i = G i := by omega
        rw [this]; exact Int.le_refl _
    · have h5 := h4 (by omega)
      exact Int.mul_le_mul_of_nonpos_right (by omega) h5
  rw [sm_add, sm_add] at e5
  unfold cost
  omega
theorem cost_eq (g : N.Good) {pi' : Nat → Int} (fF : IsFlow N s t F v) (fG : IsFlow N s t G v) (po : Pot N pi F) (po' : Pot N pi' G) : cost N F = cost N G :=
  Int.le_antisymm (cost_le g fF fG po) (cost_le g fG fF po')
end Pn
set_option linter.all false
namespace Pn
open Sw14
/-! walks along arcs -/
def Walk (L : List Arc) : Nat → List Arc → Nat → Prop
  | u, [], v => u = v
  | u, x :: W, v => x ∈ L ∧ x.a = u ∧ Walk L x.b W v
def wc : List Arc → Int
  | [] => 0
  | x :: W => x.cost + wc W
theorem wc_append (W1 W2 : List Arc) : wc (W1 ++ W2) = wc W1 + wc W2 := by
  induction W1 with
  | nil => simp [wc]
  | cons x W ih => simp only [List.cons_append, wc, ih]; omega
variable {L : List Arc} {pi : Nat → Int}
theorem walk_append {u v : Nat} {W1 W2 : List Arc} : Walk L u (W1 ++ W2) v ↔ ∃ z, Walk L u W1 z ∧ Walk L z W2 v := by
  induction W1 generalizing u with
  | nil => simp [Walk]
  | cons x W ih =>
    simp only [List.cons_append, Walk, ih]
    constructor
    · rintro ⟨h1, h2, z, h3, h4⟩; exact ⟨z, ⟨h1, h2, h3⟩, h4⟩
    · rintro ⟨z, ⟨h1, h2, h3⟩, h4⟩; exact ⟨h1, h2, z, h3, h4⟩
theorem walk_one {u v : Nat} {x : Arc} : Walk L u [x] v ↔ x ∈ L ∧ x.a = u ∧ x.b = v := by simp [Walk]
theorem walk_end {u v v' : Nat} {W : List Arc} (h : Walk L u W v) (h' : Walk L u W v') : v = v' := by
  induction W generalizing u with
  | nil => simp only [Walk] at h h'; omega
  | cons x W ih => exact ih h.2.2 h'.2.2
def PotA (L : List Arc) (pi : Nat → Int) : Prop := ∀ x, x ∈ L → 0 ≤ x.cost + pi x.a - pi x.b
theorem walk_pot (p : PotA L pi) {u v : Nat} {W : List Arc} (h : Walk L u W v) : pi v - pi u ≤ wc W := by
  induction W generalizing u with
  | nil => simp only [Walk] at h; subst h; simp [wc]
  | cons x W ih =>
    have h1 := p x h.1
    have h2 := ih h.2.2
    have h3 := h.2.1
    subst h3
    simp only [wc]; omega
/-- a place on a walk ends a prefix -/
theorem walk_mem {u v z : Nat} {W : List Arc} (h : Walk L u W v) (m : z ∈ u :: W.map (·.b)) : ∃ W1 W2, W = W1 ++ W2 ∧ Walk L u W1 z ∧ Walk L z W2 v := by
  induction W generalizing u with
  | nil => simp at m; subst m; exact ⟨[], [], rfl, rfl, h⟩
  | cons x W ih =>
    simp only [List.map_cons, List.mem_cons] at m
    rcases m with rfl | m
    · exact ⟨[], x :: W, rfl, rfl, h⟩
    · obtain ⟨W1, W2, e, h1, h2⟩ := ih h.2.2 (by simp only [List.mem_cons]; exact m)
      exact ⟨x :: W1, W2, by rw [e]; rfl, ⟨h.1, h.2.1, h1⟩, h2⟩
abbrev Lab := List (Option (Int × List Arc))
def lab (d : Lab) (v : Nat) : Option (Int × List Arc) := d.getD v none
def rlx (d : Lab) (x : Arc) : Lab := match d.getD x.a none with
  | none => d
  | some y => match d.getD x.b none with
    | none => d.set x.b (some (y.1 + x.cost, y.2 ++ [x]))
    | some z => if y.1 + x.cost < z.1 then d.set x.b (some (y.1 + x.cost, y.2 ++ [x])) else d
theorem cheapest_succ (arcs : List Arc) (k : Nat) (d : Lab) : cheapest arcs (k + 1) d = cheapest arcs k (arcs.foldl rlx d) := rfl
theorem lab_set (d : Lab) (i j : Nat) (y : Option (Int × List Arc)) (h : i < d.length) : lab (d.set i y) j = if i = j then y else lab d j := by
  unfold lab
  rw [List.getD_eq_getElem?_getD, List.getElem?_set, List.getD_eq_getElem?_getD]
  by_cases e : i = j
  · rw [if_pos e, if_pos e, if_pos h]; rfl
  · rw [if_neg e, if_neg e]
theorem rlx_cases (d : Lab) (x : Arc) : (rlx d x = d ∧ (lab d x.a = none ∨ ∃ y z, lab d x.a = some y ∧ lab d x.b = some z ∧ z.1 ≤ y.1 + x.cost)) ∨
    (∃ y, lab d x.a = some y ∧ rlx d x = d.set x.b (some (y.1 + x.cost, y.2 ++ [x])) ∧ ∀ z, lab d x.b = some z → y.1 + x.cost < z.1) := by
  unfold rlx lab
  cases h1 : d.getD x.a none with
  | none => left; exact ⟨rfl, .inl rfl⟩
  | some y =>
    cases h2 : d.getD x.b none with
    | none => right; exact ⟨y, rfl, rfl, fun z hz => by cases hz⟩
    | some z =>
      dsimp only
      by_cases q : y.1 + x.cost < z.1
      · right; exact ⟨y, rfl, by rw [if_pos q], fun z' hz => by cases hz; exact q⟩
      · left; exact ⟨by rw [if_neg q], .inr ⟨y, z, rfl, rfl, by omega⟩⟩
structure BF (L : List Arc) (n s : Nat) (d : Lab) : Prop where
  len : d.length = n
  walk : ∀ v c W, lab d v = some (c, W) → Walk L s W v ∧ wc W = c ∧ (s :: W.map (·.b)).Nodup
  dom : ∀ v c W, lab d v = some (c, W) → ∀ W1 W2 u, W = W1 ++ W2 → Walk L s W1 u → ∃ c' W', lab d u = some (c', W') ∧ c' ≤ wc W1
def Mono (d d' : Lab) : Prop := ∀ v c W, lab d v = some (c, W) → ∃ c' W', lab d' v = some (c', W') ∧ c' ≤ c
theorem Mono.refl (d : Lab) : Mono d d := fun v c W h => ⟨c, W, h, Int.le_refl _⟩
theorem Mono.trans {d d1 d2 : Lab} (h : Mono d d1) (h' : Mono d1 d2) : Mono d d2 := fun v c W e => by
  obtain ⟨c1, W1, e1, l1⟩ := h v c W e
  obtain ⟨c2, W2, e2, l2⟩ := h' v c1 W1 e1
  exact ⟨c2, W2, e2, by omega⟩
variable {n s : Nat} {d : Lab}
theorem append_one_cases {α : Type} {W W1 W2 : List α} {x : α} (e : W ++ [x] = W1 ++ W2) : (∃ W2', W = W1 ++ W2') ∨ W1 = W ++ [x] := by
  rcases List.eq_nil_or_concat W2 with h | ⟨l, y, h⟩
  · subst h; right; rw [List.append_nil] at e; exact e.symm
  · left
    subst h
    refine ⟨l, ?_⟩
    rw [List.concat_eq_append, ← List.append_assoc] at e
    exact (List.append_inj' e rfl).1
theorem rlx_ok (p : PotA L pi) (hL : ∀ x, x ∈ L → x.a < n ∧ x.b < n) (b : BF L n s d) {x : Arc} (hx : x ∈ L) :
    BF L n s (rlx d x) ∧ Mono d (rlx d x) ∧ ∀ c W, lab d x.a = some (c, W) → ∃ c' W', lab (rlx d x) x.b = some (c', W') ∧ c' ≤ c + x.cost := by
  rcases rlx_cases d x with ⟨e, h⟩ | ⟨y, hy, e, hz⟩
  · rw [e]
    refine ⟨b, Mono.refl d, fun c W hc => ?_⟩
    rcases h with h | ⟨y, z, h1, h2, h3⟩
    · rw [h] at hc; cases hc
    · rw [h1] at hc; cases hc; exact ⟨z.1, z.2, h2, h3⟩
  · obtain ⟨c0, W0⟩ := y
    dsimp only at e hz
    have hb := (hL x hx).2
    have hl : ∀ j, lab (rlx d x) j = if x.b = j then some (c0 + x.cost, W0 ++ [x]) else lab d j := fun j => by rw [e]; exact lab_set d x.b j _ (by rw [b.len]; exact hb)
    obtain ⟨w1, w2, w3⟩ := b.walk x.a c0 W0 hy
    have wx : Walk L s (W0 ++ [x]) x.b := walk_append.mpr ⟨x.a, w1, walk_one.mpr ⟨hx, rfl, rfl⟩⟩
    have mono : Mono d (rlx d x) := fun v c W h => by
      rw [hl]
      by_cases q : x.b = v
      · rw [if_pos q]; subst q; exact ⟨_, _, rfl, by have := hz _ h; dsimp only at this; omega⟩
      · rw [if_neg q]; exact ⟨c, W, h, Int.le_refl _⟩
    refine ⟨⟨by rw [e, List.length_set]; exact b.len, fun v c W h => ?_, fun v c W h W1 W2 u eW hu => ?_⟩, mono, fun c W h => ?_⟩
    · rw [hl] at h
      by_cases q : x.b = v
      · rw [if_pos q] at h; cases h; subst q
        refine ⟨wx, by rw [wc_append, w2]; simp [wc], ?_⟩
        rw [List.map_append, ← List.cons_append]
        refine List.nodup_append.mpr ⟨w3, by simp, fun z hz1 z' hz2 => ?_⟩
        simp only [List.map_cons, List.map_nil, List.mem_singleton] at hz2
        subst hz2
        intro qz
        subst qz
        obtain ⟨W1, W2, e1, h1, h2⟩ := walk_mem w1 hz1
        obtain ⟨c', W', h3, h4⟩ := b.dom x.a c0 W0 hy W1 W2 x.b e1 h1
        have h5 := hz _ h3
        have h6 := walk_pot p (walk_append.mpr ⟨x.a, h2, walk_one.mpr ⟨hx, rfl, rfl⟩⟩)
        rw [wc_append] at h6
        simp only [wc] at h6
        rw [e1, wc_append] at w2
        dsimp only at h5
        omega
      · rw [if_neg q] at h; exact b.walk v c W h
    · have old : ∀ c'' W'', lab d u = some (c'', W'') → c'' ≤ wc W1 → ∃ c' W', lab (rlx d x) u = some (c', W') ∧ c' ≤ wc W1 := fun c'' W'' h1 h2 => by
        obtain ⟨c3, W3, h3, h4⟩ := mono u c'' W'' h1
        exact ⟨c3, W3, h3, by omega⟩
      rw [hl] at h
      by_cases q : x.b = v
      · rw [if_pos q] at h; cases h; subst q
        rcases append_one_cases eW with ⟨W2', e2⟩ | e2
        · obtain ⟨c1, W1', h1, h2⟩ := b.dom x.a c0 W0 hy W1 W2' u e2 hu
          exact old c1 W1' h1 h2
        · subst e2
          have := walk_end wx hu
          subst this
          exact ⟨_, _, by rw [hl, if_pos rfl], by rw [wc_append, w2]; simp [wc]⟩
      · rw [if_neg q] at h
        obtain ⟨c1, W1', h1, h2⟩ := b.dom v c W h W1 W2 u eW hu
        exact old c1 W1' h1 h2
    · rw [hy] at h; cases h
      exact ⟨_, _, by rw [hl, if_pos rfl], Int.le_refl _⟩
theorem fold_ok (p : PotA L pi) (hL : ∀ x, x ∈ L → x.a < n ∧ x.b < n) : ∀ (K : List Arc) (d : Lab), (∀ x, x ∈ K → x ∈ L) → BF L n s d →
    BF L n s (K.foldl rlx d) ∧ Mono d (K.foldl rlx d) ∧ ∀ x, x ∈ K → ∀ c W, lab d x.a = some (c, W) → ∃ c' W', lab (K.foldl rlx d) x.b = some (c', W') ∧ c' ≤ c + x.cost := by
  intro K
  induction K with
  | nil => intro d _ b; exact ⟨b, Mono.refl d, fun x hx => by cases hx⟩
  | cons y K ih =>
    intro d hK b
    obtain ⟨b1, m1, r1⟩ := rlx_ok p hL b (hK y (List.mem_cons_self ..))
    obtain ⟨b2, m2, r2⟩ := ih (rlx d y) (fun x hx => hK x (List.mem_cons_of_mem _ hx)) b1
    refine ⟨b2, m1.trans m2, fun x hx c W h => ?_⟩
    rw [List.foldl_cons]
    rcases List.mem_cons.mp hx with rfl | hx
    · obtain ⟨c1, W1, h1, l1⟩ := r1 c W h
      obtain ⟨c2, W2, h2, l2⟩ := m2 _ _ _ h1
      exact ⟨c2, W2, h2, by omega⟩
    · obtain ⟨c1, W1, h1, l1⟩ := m1 _ _ _ h
      obtain ⟨c2, W2, h2, l2⟩ := r2 x hx c1 W1 h1
      exact ⟨c2, W2, h2, by omega⟩
def DomK (L : List Arc) (s k : Nat) (d : Lab) : Prop := ∀ v W, Walk L s W v → W.length ≤ k → ∃ c' W', lab d v = some (c', W') ∧ c' ≤ wc W
theorem domK_step (p : PotA L pi) (hL : ∀ x, x ∈ L → x.a < n ∧ x.b < n) {k : Nat} (b : BF L n s d) (h : DomK L s k d) : DomK L s (k + 1) (L.foldl rlx d) := by
  obtain ⟨b2, m2, r2⟩ := fold_ok p hL L d (fun _ h => h) b
  intro v W hW hk
  rcases List.eq_nil_or_concat W with e | ⟨W0, x, e⟩
  · subst e
    obtain ⟨c1, W1, h1, l1⟩ := h v [] hW (Nat.zero_le _)
    obtain ⟨c2, W2, h2, l2⟩ := m2 _ _ _ h1
    exact ⟨c2, W2, h2, by omega⟩
  · rw [List.concat_eq_append] at e
    subst e
    obtain ⟨z, h3, h4⟩ := walk_append.mp hW
    obtain ⟨h5, h6, h7⟩ := walk_one.mp h4
    subst h6 h7
    obtain ⟨c1, W1, h1, l1⟩ := h x.a W0 h3 (by rw [List.length_append] at hk; simp at hk; omega)
    obtain ⟨c2, W2, h2, l2⟩ := r2 x h5 c1 W1 h1
    exact ⟨c2, W2, h2, by rw [wc_append]; simp only [wc]; omega⟩
theorem cheapest_ok (p : PotA L pi) (hL : ∀ x, x ∈ L → x.a < n ∧ x.b < n) : ∀ (k j : Nat) (d : Lab), BF L n s d → DomK L s j d → BF L n s (cheapest L k d) ∧ DomK L s (j + k) (cheapest L k d) := by
  intro k
  induction k with
  | zero => intro j d b h; exact ⟨b, h⟩
  | succ k ih =>
    intro j d b h
    rw [cheapest_succ]
    have := ih (j + 1) _ (fold_ok p hL L d (fun _ h => h) b).1 (domK_step p hL b h)
    rw [show j + (k + 1) = j + 1 + k by omega]
    exact this
theorem init_lab (hs : s < n) (v : Nat) : lab ((List.replicate n none).set s (some (0, []))) v = if s = v then some (0, []) else none := by
  rw [lab_set _ _ _ _ (by simpa using hs)]
  by_cases e : s = v
  · rw [if_pos e, if_pos e]
  · rw [if_neg e, if_neg e]
    unfold lab
    rw [List.getD_eq_getElem?_getD, List.getElem?_replicate]
    split <;> rfl
theorem init_ok (hs : s < n) : BF L n s ((List.replicate n none).set s (some (0, []))) ∧ DomK L s 0 ((List.replicate n none).set s (some (0, []))) := by
  refine ⟨⟨by simp, fun v c W h => ?_, fun v c W h W1 W2 u e hu => ?_⟩, fun v W hW hk => ?_⟩
  · rw [init_lab hs] at h
    split at h
    · cases h; rename_i e; exact ⟨e, rfl, by simp⟩
    · cases h
  · rw [init_lab hs] at h
    split at h
    · cases h
      have : W1 = [] := (List.append_eq_nil_iff.mp e.symm).1
      subst this
      simp only [Walk] at hu
      subst hu
      exact ⟨0, [], by rw [init_lab hs, if_pos rfl], Int.le_refl _⟩
    · cases h
  · have : W = [] := List.length_eq_zero_iff.mp (by omega)
    subst this
    simp only [Walk] at hW
    subst hW
    exact ⟨0, [], by rw [init_lab hs, if_pos rfl], Int.le_refl _⟩
/-- a list of different numbers below n is no longer than n -/
theorem nodup_lt : ∀ (n : Nat) (l : List Nat), l.Nodup → (∀ x, x ∈ l → x < n) → l.length ≤ n := by
  intro n
  induction n with
  | zero => intro l _ h; cases l with
    | nil => simp
    | cons x l => exact absurd (h x (List.mem_cons_self ..)) (by omega)
  | succ n ih =>
    intro l nd h
    by_cases q : n ∈ l
    · have h1 := ih (l.erase n) (nd.erase n) (fun x hx => by
        have h2 := h x (List.mem_of_mem_erase hx)
        have h3 : x ≠ n := ((List.Nodup.mem_erase_iff nd).mp hx).1
        omega)
      rw [List.length_erase_of_mem q] at h1
      omega
    · have := ih l nd (fun x hx => by
        have h2 := h x hx
        have : x ≠ n := fun e => q (e ▸ hx)
        omega)
      omega
structure Dist (L : List Arc) (n s : Nat) (d : Lab) : Prop where
  bf : BF L n s d
  src : ∃ c W, lab d s = some (c, W) ∧ c ≤ 0
  arc : ∀ x, x ∈ L → ∀ c W, lab d x.a = some (c, W) → ∃ c' W', lab d x.b = some (c', W') ∧ c' ≤ c + x.cost
theorem walk_lt (hL : ∀ x, x ∈ L → x.a < n ∧ x.b < n) {u v : Nat} {W : List Arc} (h : Walk L u W v) : ∀ z, z ∈ W.map (·.b) → z < n := by
  induction W generalizing u with
  | nil => intro z hz; cases hz
  | cons x W ih =>
    intro z hz
    rw [List.map_cons, List.mem_cons] at hz
    rcases hz with rfl | hz
    · exact (hL x h.1).2
    · exact ih h.2.2 z hz
theorem dist_ok (p : PotA L pi) (hL : ∀ x, x ∈ L → x.a < n ∧ x.b < n) (hs : s < n) : Dist L n s (cheapest L n ((List.replicate n none).set s (some (0, [])))) := by
  obtain ⟨b0, k0⟩ := init_ok (L := L) hs
  obtain ⟨b, k⟩ := cheapest_ok p hL n 0 _ b0 k0
  rw [Nat.zero_add] at k
  refine ⟨b, ?_, fun x hx c W h => ?_⟩
  · obtain ⟨c, W, h1, h2⟩ := k s [] rfl (Nat.zero_le _)
    exact ⟨c, W, h1, h2⟩
  · obtain ⟨w1, w2, w3⟩ := b.walk x.a c W h
    have hlen := nodup_lt n (s :: W.map (·.b)) w3 (fun z hz => by
      rcases List.mem_cons.mp hz with rfl | hz
      · exact hs
      · exact walk_lt hL w1 z hz)
    simp at hlen
    obtain ⟨c', W', h1, h2⟩ := k x.b (W ++ [x]) (walk_append.mpr ⟨x.a, w1, walk_one.mpr ⟨hx, rfl, rfl⟩⟩) (by simp; omega)
    refine ⟨c', W', h1, ?_⟩
    rw [wc_append, w2] at h2
    simp only [wc] at h2
    omega
/-- labels go down along a walk by no more than its cost -/
theorem Dist.along (D : Dist L n s d) {u v : Nat} {W : List Arc} (h : Walk L u W v) : ∀ c W0, lab d u = some (c, W0) → ∃ c' W', lab d v = some (c', W') ∧ c' ≤ c + wc W := by
  induction W generalizing u with
  | nil => intro c W0 hc; simp only [Walk] at h; subst h; exact ⟨c, W0, hc, by simp [wc]⟩
  | cons x W ih =>
    intro c W0 hc
    obtain ⟨h1, h2, h3⟩ := h
    subst h2
    obtain ⟨c1, W1, e1, l1⟩ := D.arc x h1 c W0 hc
    obtain ⟨c2, W2, e2, l2⟩ := ih h3 c1 W1 e1
    exact ⟨c2, W2, e2, by simp only [wc]; omega⟩
/-- each arc of a label's walk is tight -/
theorem Dist.tight (D : Dist L n s d) {v : Nat} {c : Int} {W : List Arc} (h : lab d v = some (c, W)) {x : Arc} (hx : x ∈ W) :
    ∃ c1 W1 c2 W2, lab d x.a = some (c1, W1) ∧ lab d x.b = some (c2, W2) ∧ c2 = c1 + x.cost := by
  obtain ⟨A, B, e⟩ := List.append_of_mem hx
  obtain ⟨w1, w2, w3⟩ := D.bf.walk v c W h
  rw [e] at w1
  obtain ⟨z, h1, h2⟩ := walk_append.mp w1
  obtain ⟨h3, h4, h5⟩ := h2
  subst h4
  obtain ⟨c1, W1, e1, l1⟩ := D.bf.dom v c W h A (x :: B) x.a e h1
  obtain ⟨c2, W2, e2, l2⟩ := D.bf.dom v c W h (A ++ [x]) B x.b (by rw [e]; simp) (walk_append.mpr ⟨x.a, h1, walk_one.mpr ⟨h3, rfl, rfl⟩⟩)
  obtain ⟨c3, W3, e3, l3⟩ := D.arc x h3 c1 W1 e1
  rw [e2] at e3
  cases e3
  obtain ⟨c4, W4, e4, l4⟩ := D.along h5 c2 W2 e2
  rw [h] at e4
  cases e4
  rw [e, wc_append] at w2
  simp only [wc] at w2
  rw [wc_append] at l2
  simp only [wc] at l2
  exact ⟨c1, W1, c2, W2, e1, e2, by omega⟩
end Pn
set_option linter.all false
namespace Pn
open Sw14
theorem sm_front (m : Nat) (g : Nat → Int) : sm (m + 1) g = g 0 + sm m (fun i => g (i + 1)) := by
  induction m with
  | zero => simp [sm]
  | succ m ih =>
    rw [sm, ih]
    simp only [sm]
    omega
def pp (n : Net) (i : Nat) : Pipe := n.pipes.getD i ⟨0, 0, 0, 0⟩
/-- the net by functions -/
def fn (n : Net) : FN := { n := n.places, m := n.pipes.length, a := fun i => (pp n i).a, b := fun i => (pp n i).b, h := fun i => ((pp n i).holds : Int), c := fun i => ((pp n i).cost : Int) }
def fl (f : List Nat) (i : Nat) : Int := ((f.getD i 0 : Nat) : Int)
theorem pp_of {n : Net} {i : Nat} {p : Pipe} (h : n.pipes[i]? = some p) : pp n i = p := by
  unfold pp; rw [List.getD_eq_getElem?_getD, h]; rfl
theorem good_of {n : Net} (r : Right n) : (fn n).Good where
  ha i hi := (r _ (List.mem_of_getElem? (show n.pipes[i]? = some (pp n i) by unfold pp; rw [List.getD_eq_getElem?_getD, List.getElem?_eq_getElem hi]; rfl))).1
  hb i hi := (r _ (List.mem_of_getElem? (show n.pipes[i]? = some (pp n i) by unfold pp; rw [List.getD_eq_getElem?_getD, List.getElem?_eq_getElem hi]; rfl))).2
  hh i hi := Int.natCast_nonneg _
  hc i hi := Int.natCast_nonneg _
theorem cost_list : ∀ (P : List Pipe) (f : List Nat), f.length = P.length → ((((P.zip f).map fun x => x.2 * x.1.cost).sum : Nat) : Int) = sm P.length (fun i => fl f i * ((P.getD i ⟨0, 0, 0, 0⟩).cost : Int)) := by
  intro P
  induction P with
  | nil => intro f h; simp [sm]
  | cons p P ih =>
    intro f h
    cases f with
    | nil => simp at h
    | cons k f =>
      rw [List.length_cons, sm_front]
      have := ih f (by simpa using h)
      simp only [List.zip_cons_cons, List.map_cons, List.sum_cons, Int.natCast_add, Int.natCast_mul] at *
      rw [this]
      rfl
theorem costOf_eq {n : Net} {f : List Nat} (h : f.length = n.pipes.length) : (costOf n f : Int) = cost (fn n) (fl f) := cost_list n.pipes f h
def onArc (n : Net) (f : List Nat) (i : Nat) : Arc := ⟨(pp n i).a, (pp n i).b, (pp n i).holds - f.getD i 0, ((pp n i).cost : Int), i, true⟩
def offArc (n : Net) (f : List Nat) (i : Nat) : Arc := ⟨(pp n i).b, (pp n i).a, f.getD i 0, -((pp n i).cost : Int), i, false⟩
theorem mem_arcs {n : Net} {f : List Nat} {x : Arc} : x ∈ arcsOf n f ↔ ∃ i, i < n.pipes.length ∧ ((f.getD i 0 < (pp n i).holds ∧ x = onArc n f i) ∨ (0 < f.getD i 0 ∧ x = offArc n f i)) := by
  unfold arcsOf
  rw [List.mem_flatMap]
  constructor
  · rintro ⟨⟨p, i⟩, h1, h2⟩
    have h3 := List.mem_zipIdx_iff_getElem?.mp h1
    dsimp only at h3 h2
    have h4 := pp_of h3
    refine ⟨i, (List.getElem?_eq_some_iff.mp h3).1, ?_⟩
    rw [List.mem_append] at h2
    rcases h2 with h2 | h2
    · split at h2
      · left; rename_i q; rw [h4]; refine ⟨q, ?_⟩; unfold onArc; rw [h4]; exact List.mem_singleton.mp h2
      · cases h2
    · split at h2
      · right; rename_i q; refine ⟨q, ?_⟩; unfold offArc; rw [h4]; exact List.mem_singleton.mp h2
      · cases h2
  · rintro ⟨i, hi, h⟩
    have e : n.pipes[i]? = some (pp n i) := by unfold pp; rw [List.getD_eq_getElem?_getD, List.getElem?_eq_getElem hi]; rfl
    refine ⟨(pp n i, i), List.mem_zipIdx_iff_getElem?.mpr e, ?_⟩
    dsimp only
    rw [List.mem_append]
    rcases h with ⟨h1, h2⟩ | ⟨h1, h2⟩
    · left; rw [if_pos h1]; exact List.mem_singleton.mpr h2
    · right; rw [if_pos h1]; exact List.mem_singleton.mpr h2
theorem arcs_lt {n : Net} {f : List Nat} (r : Right n) : ∀ x, x ∈ arcsOf n f → x.a < n.places ∧ x.b < n.places := by
  intro x hx
  obtain ⟨i, hi, h⟩ := mem_arcs.mp hx
  have h1 := (good_of r).ha i hi
  have h2 := (good_of r).hb i hi
  rcases h with ⟨_, rfl⟩ | ⟨_, rfl⟩
  · exact ⟨h1, h2⟩
  · exact ⟨h2, h1⟩
theorem potA_of {n : Net} {f : List Nat} {pi : Nat → Int} (p : Pot (fn n) pi (fl f)) : PotA (arcsOf n f) pi := by
  intro x hx
  obtain ⟨i, hi, h⟩ := mem_arcs.mp hx
  obtain ⟨p1, p2⟩ := p i hi
  rcases h with ⟨h1, rfl⟩ | ⟨h1, rfl⟩
  · have := p1 (by show ((f.getD i 0 : Nat) : Int) < ((pp n i).holds : Int); omega)
    exact this
  · have := p2 (by show (0 : Int) < ((f.getD i 0 : Nat) : Int); omega)
    show 0 ≤ -((pp n i).cost : Int) + pi (pp n i).b - pi (pp n i).a
    have : ((pp n i).cost : Int) + pi (pp n i).a - pi (pp n i).b ≤ 0 := this
    omega
/-! units along a walk -/
def psh1 (u : Nat) (f : List Nat) (x : Arc) : List Nat := f.set x.pipe (if x.on = true then f.getD x.pipe 0 + u else f.getD x.pipe 0 - u)
structure Fit (n : Net) (u : Nat) (f : List Nat) (x : Arc) : Prop where
  lt : x.pipe < n.pipes.length
  on : x.on = true → x.a = (pp n x.pipe).a ∧ x.b = (pp n x.pipe).b ∧ f.getD x.pipe 0 + u ≤ (pp n x.pipe).holds
  off : x.on = false → x.a = (pp n x.pipe).b ∧ x.b = (pp n x.pipe).a ∧ u ≤ f.getD x.pipe 0
theorem getD_set_ne {f : List Nat} {i j y : Nat} (h : i ≠ j) : (f.set i y).getD j 0 = f.getD j 0 := by
  rw [List.getD_eq_getElem?_getD, List.getElem?_set_ne h, ← List.getD_eq_getElem?_getD]
theorem getD_set_eq {f : List Nat} {i y : Nat} (h : i < f.length) : (f.set i y).getD i 0 = y := by
  rw [List.getD_eq_getElem?_getD, List.getElem?_set_self h]; rfl
/-- what one arc more does to the pipe's units -/
def sgn (x : Arc) (u : Nat) : Int := if x.on = true then (u : Int) else -(u : Int)
theorem psh1_at {n : Net} {u : Nat} {f : List Nat} {x : Arc} (hl : f.length = n.pipes.length) (ft : Fit n u f x) (j : Nat) : fl (psh1 u f x) j = fl f j + (if j = x.pipe then sgn x u else 0) := by
  unfold psh1 fl
  by_cases q : j = x.pipe
  · subst q
    rw [getD_set_eq (by rw [hl]; exact ft.lt), if_pos rfl]
    unfold sgn
    cases e : x.on with
    | true => rw [if_pos rfl, if_pos rfl]; omega
    | false =>
      have := (ft.off e).2.2
      rw [if_neg (by decide), if_neg (by decide)]; omega
  · rw [getD_set_ne (fun e => q e.symm), if_neg q]; omega
theorem psh1_dv {n : Net} {u : Nat} {f : List Nat} {x : Arc} (hl : f.length = n.pipes.length) (ft : Fit n u f x) (p : Nat) :
    dv (fn n) (fl (psh1 u f x)) p = dv (fn n) (fl f) p + ((if p = x.a then (u : Int) else 0) - (if p = x.b then (u : Int) else 0)) := by
  unfold dv
  rw [sm_change (m := (fn n).m) (k := x.pipe) ft.lt (fun i => (if (fn n).a i = p then fl f i else 0) - (if (fn n).b i = p then fl f i else 0))]
  · congr 1
    rw [psh1_at hl ft, if_pos rfl]
    unfold sgn
    cases e : x.on with
    | true =>
      obtain ⟨e1, e2, e3⟩ := ft.on e
      rw [e1, e2, if_pos rfl]
      show ((if (pp n x.pipe).a = p then _ else _) - (if (pp n x.pipe).b = p then _ else _)) - ((if (pp n x.pipe).a = p then _ else _) - (if (pp n x.pipe).b = p then _ else _)) = _
      by_cases h1 : (pp n x.pipe).a = p <;> by_cases h2 : (pp n x.pipe).b = p <;> simp [h1, h2, Ne.symm, eq_comm] <;> (try (split <;> split)) <;> (try simp_all) <;> omega
    | false =>
      obtain ⟨e1, e2, e3⟩ := ft.off e
      rw [e1, e2]
      simp only [Bool.false_eq_true, if_false]
      show ((if (pp n x.pipe).a = p then _ else _) - (if (pp n x.pipe).b = p then _ else _)) - ((if (pp n x.pipe).a = p then _ else _) - (if (pp n x.pipe).b = p then _ else _)) = _
      by_cases h1 : (pp n x.pipe).a = p <;> by_cases h2 : (pp n x.pipe).b = p <;> simp [h1, h2, Ne.symm, eq_comm] <;> (try (split <;> split)) <;> (try simp_all) <;> omega
  · intro i hi hne
    rw [psh1_at hl ft, if_neg hne, Int.add_zero]
theorem psh_ok {n : Net} {L : List Arc} {u : Nat} : ∀ (W : List Arc) (f : List Nat) (z e : Nat), f.length = n.pipes.length → (W.map (·.pipe)).Nodup → (∀ x, x ∈ W → Fit n u f x) → Walk L z W e →
    (W.foldl (psh1 u) f).length = n.pipes.length ∧ (∀ i, i ∉ W.map (·.pipe) → fl (W.foldl (psh1 u) f) i = fl f i) ∧ (∀ x, x ∈ W → fl (W.foldl (psh1 u) f) x.pipe = fl f x.pipe + sgn x u) ∧
    ∀ p, dv (fn n) (fl (W.foldl (psh1 u) f)) p = dv (fn n) (fl f) p + ((if p = z then (u : Int) else 0) - (if p = e then (u : Int) else 0)) := by
  intro W
  induction W with
  | nil =>
    intro f z e hl nd ft hw
    simp only [Walk] at hw
    subst hw
    exact ⟨hl, fun _ _ => rfl, fun x hx => (by cases hx), fun p => by simp⟩
  | cons y W ih =>
    intro f z e hl nd ft hw
    obtain ⟨h1, h2, h3⟩ := hw
    subst h2
    rw [List.map_cons, List.nodup_cons] at nd
    have fy := ft y (List.mem_cons_self ..)
    have hl1 : (psh1 u f y).length = n.pipes.length := by unfold psh1; rw [List.length_set]; exact hl
    have ne : ∀ x, x ∈ W → x.pipe ≠ y.pipe := fun x hx e => nd.1 (e ▸ List.mem_map_of_mem hx)
    have ft1 : ∀ x, x ∈ W → Fit n u (psh1 u f y) x := fun x hx => by
      have fx := ft x (List.mem_cons_of_mem _ hx)
      have e1 : (psh1 u f y).getD x.pipe 0 = f.getD x.pipe 0 := getD_set_ne (ne x hx).symm
      exact ⟨fx.lt, by rw [e1]; exact fx.on, by rw [e1]; exact fx.off⟩
    obtain ⟨a1, a2, a3, a4⟩ := ih (psh1 u f y) y.b e hl1 nd.2 ft1 h3
    rw [List.foldl_cons]
    refine ⟨a1, fun i hi => ?_, fun x hx => ?_, fun p => ?_⟩
    · rw [List.map_cons, List.mem_cons] at hi
      rw [a2 i (fun q => hi (.inr q)), psh1_at hl fy, if_neg (fun q => hi (.inl q)), Int.add_zero]
    · rcases List.mem_cons.mp hx with rfl | hx
      · rw [a2 _ nd.1, psh1_at hl fy, if_pos rfl]
      · rw [a3 x hx, psh1_at hl fy, if_neg (ne x hx), Int.add_zero]
    · rw [a4 p, psh1_dv hl fy p]; omega
theorem pipes_nodup {n : Net} {f : List Nat} : ∀ (W : List Arc) (z e : Nat), Walk (arcsOf n f) z W e → (z :: W.map (·.b)).Nodup → (W.map (·.pipe)).Nodup := by
  intro W
  induction W with
  | nil => intro z e _ _; simp
  | cons y W ih =>
    intro z e hw nd
    obtain ⟨h1, h2, h3⟩ := hw
    subst h2
    rw [List.map_cons] at nd ⊢
    have nd1 := List.nodup_cons.mp nd
    rw [List.nodup_cons]
    refine ⟨fun hy => ?_, ih y.b e h3 nd1.2⟩
    obtain ⟨x, hx, ex⟩ := List.mem_map.mp hy
    have hb : x.b ∈ W.map (·.b) := List.mem_map_of_mem hx
    have n1 : x.b ≠ y.a := fun q => nd1.1 (List.mem_cons_of_mem _ (q ▸ hb))
    have n2 : x.b ≠ y.b := fun q => (List.nodup_cons.mp nd1.2).1 (q ▸ hb)
    have hxL : x ∈ arcsOf n f := by
      clear ih hy ex n1 n2 hb nd nd1
      induction W generalizing y with
      | nil => cases hx
      | cons w W ih2 =>
        rcases List.mem_cons.mp hx with rfl | hx
        · exact h3.1
        · exact ih2 w h3.1 h3.2.2 hx
    obtain ⟨i, hi, hh⟩ := mem_arcs.mp h1
    obtain ⟨j, hj, hk⟩ := mem_arcs.mp hxL
    rcases hh with ⟨_, rfl⟩ | ⟨_, rfl⟩ <;> rcases hk with ⟨_, rfl⟩ | ⟨_, rfl⟩ <;> simp only [onArc, offArc] at ex n1 n2 <;> subst ex <;> simp_all
theorem fold_min : ∀ (W : List Arc) (k : Nat), (W.foldl (fun (m : Nat) (x : Arc) => min m x.most) k) ≤ k ∧ (∀ x, x ∈ W → (W.foldl (fun (m : Nat) (x : Arc) => min m x.most) k) ≤ x.most) ∧ (0 < k → (∀ x, x ∈ W → 0 < x.most) → 0 < (W.foldl (fun (m : Nat) (x : Arc) => min m x.most) k)) := by
  intro W
  induction W with
  | nil => intro k; exact ⟨Nat.le_refl _, fun x hx => (by cases hx), fun h _ => h⟩
  | cons y W ih =>
    intro k
    obtain ⟨h1, h2, h3⟩ := ih (min k y.most)
    rw [List.foldl_cons]
    refine ⟨by omega, fun x hx => ?_, fun hk ha => ?_⟩
    · rcases List.mem_cons.mp hx with rfl | hx
      · omega
      · exact h2 x hx
    · exact h3 (by have := ha y (List.mem_cons_self ..); omega) (fun x hx => ha x (List.mem_cons_of_mem _ hx))
theorem walk_sub {L : List Arc} : ∀ {W : List Arc} {u v : Nat}, Walk L u W v → ∀ x, x ∈ W → x ∈ L := by
  intro W
  induction W with
  | nil => intro u v _ x hx; cases hx
  | cons y W ih =>
    intro u v h x hx
    rcases List.mem_cons.mp hx with rfl | hx
    · exact h.1
    · exact ih h.2.2 x hx
/-- a flow on its way: so many units, a potential -/
structure Sd (n : Net) (s t : Nat) (f : List Nat) (v : Nat) : Prop where
  len : f.length = n.pipes.length
  flow : IsFlow (fn n) s t (fl f) (v : Int)
  pot : ∃ pi, Pot (fn n) pi (fl f)
theorem augment {n : Net} {s t : Nat} {f : List Nat} {v left : Nat} (r : Right n) (hs : s < n.places) (hst : s ≠ t) (S : Sd n s t f v) (hl : 0 < left) {d : Lab} (D : Dist (arcsOf n f) n.places s d) {c : Int} {W : List Arc} (hd : lab d t = some (c, W)) :
    0 < W.foldl (fun (m : Nat) (x : Arc) => min m x.most) left ∧ W.foldl (fun (m : Nat) (x : Arc) => min m x.most) left ≤ left ∧
    Sd n s t (W.foldl (psh1 (W.foldl (fun (m : Nat) (x : Arc) => min m x.most) left)) f) (v + W.foldl (fun (m : Nat) (x : Arc) => min m x.most) left) := by
  obtain ⟨u1, u2, u3⟩ := fold_min W left
  generalize W.foldl (fun (m : Nat) (x : Arc) => min m x.most) left = u at *
  obtain ⟨w1, w2, w3⟩ := D.bf.walk t c W hd
  have sub := walk_sub w1
  have upos : 0 < u := u3 hl (fun x hx => by
    obtain ⟨i, hi, h⟩ := mem_arcs.mp (sub x hx)
    rcases h with ⟨h1, rfl⟩ | ⟨h1, rfl⟩
    · simp only [onArc]; omega
    · simp only [offArc]; omega)
  have nd := pipes_nodup W s t w1 w3
  have fit : ∀ x, x ∈ W → Fit n u f x := fun x hx => by
    have hm := u2 x hx
    obtain ⟨i, hi, h⟩ := mem_arcs.mp (sub x hx)
    rcases h with ⟨h1, rfl⟩ | ⟨h1, rfl⟩
    · exact ⟨hi, fun _ => ⟨rfl, rfl, by simp only [onArc] at hm ⊢; omega⟩, fun e => by cases e⟩
    · exact ⟨hi, fun e => (by cases e), fun _ => ⟨rfl, rfl, by simp only [offArc] at hm ⊢; omega⟩⟩
  obtain ⟨p1, p2, p3, p4⟩ := psh_ok (L := arcsOf n f) W f s t S.len nd fit w1
  refine ⟨upos, u1, p1, ⟨fun i hi => ?_, fun p hp => ?_⟩, ?_⟩
  · have hf := S.flow.feas i hi
    by_cases q : i ∈ W.map (·.pipe)
    · obtain ⟨x, hx, ex⟩ := List.mem_map.mp q
      subst ex
      rw [p3 x hx]
      have fx := fit x hx
      unfold sgn
      cases e : x.on with
      | true =>
        have := (fx.on e).2.2
        rw [if_pos rfl]
        have e3 : fl f x.pipe = ((f.getD x.pipe 0 : Nat) : Int) := rfl
        have e4 : (fn n).h x.pipe = ((pp n x.pipe).holds : Int) := rfl
        omega
      | false =>
        have := (fx.off e).2.2
        rw [if_neg (by decide)]
        have e3 : fl f x.pipe = ((f.getD x.pipe 0 : Nat) : Int) := rfl
        omega
    · rw [p2 i q]; exact hf
  · rw [p4 p, S.flow.div p hp]
    unfold sup
    by_cases h1 : p = s
    · have h2 : p ≠ t := fun e => hst (h1 ▸ e)
      simp only [h1, if_true]
      rw [if_neg (h1 ▸ h2), if_neg (h1 ▸ h2)]; omega
    · rw [if_neg h1, if_neg h1, if_neg h1]
      by_cases h2 : p = t
      · simp only [h2, if_true]; omega
      · rw [if_neg h2, if_neg h2, if_neg h2]; omega
  · obtain ⟨pi, po⟩ := S.pot
    have pa := potA_of po
    obtain ⟨M, hM⟩ := bound (n := n.places) (fun v => match lab d v with | some y => y.1 - pi v | none => 0)
    have hM' : ∀ v c W, v < n.places → lab d v = some (c, W) → c - pi v ≤ M := fun v c W hv e => by
      have := hM v hv
      rw [e] at this
      exact this
    let pi' : Nat → Int := fun v => match lab d v with | some y => y.1 | none => pi v + M
    have e1 : ∀ v c W, lab d v = some (c, W) → pi' v = c := fun v c W e => by show (match lab d v with | some y => y.1 | none => pi v + M) = c; rw [e]
    have e2 : ∀ v, lab d v = none → pi' v = pi v + M := fun v e => by show (match lab d v with | some y => y.1 | none => pi v + M) = pi v + M; rw [e]
    have rc : ∀ x, x ∈ arcsOf n f → 0 ≤ x.cost + pi' x.a - pi' x.b := fun x hx => by
      cases ha : lab d x.a with
      | some y =>
        obtain ⟨c1, W1⟩ := y
        obtain ⟨c2, W2, h2, l2⟩ := D.arc x hx c1 W1 ha
        rw [e1 _ _ _ ha, e1 _ _ _ h2]; omega
      | none =>
        rw [e2 _ ha]
        have h3 := pa x hx
        cases hb : lab d x.b with
        | some y =>
          obtain ⟨c1, W1⟩ := y
          have := hM' x.b c1 W1 (arcs_lt r x hx).2 hb
          rw [e1 _ _ _ hb]; omega
        | none => rw [e2 _ hb]; omega
    have tg : ∀ x, x ∈ W → x.cost + pi' x.a - pi' x.b = 0 := fun x hx => by
      obtain ⟨c1, W1, c2, W2, h1, h2, h3⟩ := D.tight hd hx
      rw [e1 _ _ _ h1, e1 _ _ _ h2]; omega
    refine ⟨pi', fun i hi => ⟨fun h => ?_, fun h => ?_⟩⟩
    · by_cases q : fl f i < (fn n).h i
      · exact rc (onArc n f i) (mem_arcs.mpr ⟨i, hi, .inl ⟨by have e3 : fl f i = ((f.getD i 0 : Nat) : Int) := rfl; have e4 : (fn n).h i = ((pp n i).holds : Int) := rfl; omega, rfl⟩⟩)
      · have hf := S.flow.feas i hi
        by_cases q2 : i ∈ W.map (·.pipe)
        · obtain ⟨x, hx, ex⟩ := List.mem_map.mp q2
          have h5 := p3 x hx
          subst ex
          obtain ⟨j, hj, hk⟩ := mem_arcs.mp (sub x hx)
          have h6 := tg x hx
          rcases hk with ⟨_, rfl⟩ | ⟨_, rfl⟩
          · simp only [onArc, sgn, if_true] at h5 h; simp only [onArc] at q hf; omega
          · simp only [offArc] at h6 ⊢
            show 0 ≤ ((pp n j).cost : Int) + pi' (pp n j).a - pi' (pp n j).b
            omega
        · rw [p2 i q2] at h; omega
    · by_cases q : 0 < fl f i
      · have := rc (offArc n f i) (mem_arcs.mpr ⟨i, hi, .inr ⟨by have e3 : fl f i = ((f.getD i 0 : Nat) : Int) := rfl; omega, rfl⟩⟩)
        simp only [offArc] at this
        show ((pp n i).cost : Int) + pi' (pp n i).a - pi' (pp n i).b ≤ 0
        omega
      · have hf := S.flow.feas i hi
        by_cases q2 : i ∈ W.map (·.pipe)
        · obtain ⟨x, hx, ex⟩ := List.mem_map.mp q2
          have h5 := p3 x hx
          subst ex
          obtain ⟨j, hj, hk⟩ := mem_arcs.mp (sub x hx)
          have h6 := tg x hx
          rcases hk with ⟨_, rfl⟩ | ⟨_, rfl⟩
          · simp only [onArc] at h6 ⊢
            show ((pp n j).cost : Int) + pi' (pp n j).a - pi' (pp n j).b ≤ 0
            omega
          · simp only [offArc, sgn] at h5 h; simp only [Bool.false_eq_true, if_false] at h5; simp only [offArc] at q hf; omega
        · rw [p2 i q2] at h; omega
/-- brings as much as can be, most at most -/
def Full (N : FN) (s t : Nat) (F : Nat → Int) (v most : Int) : Prop := v ≤ most ∧ (v = most ∨ ∃ R : Nat → Bool, R s = true ∧ R t = false ∧ Cut N R F)
theorem sending_ok {n : Net} {s t : Nat} (r : Right n) (hs : s < n.places) (hst : s ≠ t) : ∀ (k left : Nat) (f : List Nat) (v : Nat), left < k → Sd n s t f v →
    Sd n s t (sending n s t k left f v).1 (sending n s t k left f v).2 ∧ Full (fn n) s t (fl (sending n s t k left f v).1) ((sending n s t k left f v).2 : Int) ((v + left : Nat) : Int) := by
  intro k
  induction k with
  | zero => intro left f v h; omega
  | succ k ih =>
    intro left f v hk S
    unfold sending
    by_cases q : left = 0
    · rw [if_pos q]; subst q; exact ⟨S, Int.le_refl _, .inl rfl⟩
    · rw [if_neg q]
      obtain ⟨pi, po⟩ := S.pot
      have D := dist_ok (n := n.places) (s := s) (potA_of po) (arcs_lt r) hs
      cases e : (cheapest (arcsOf n f) n.places ((List.replicate n.places none).set s (some (0, [])))).getD t none with
      | none =>
        dsimp only
        refine ⟨S, by omega, .inr ⟨fun v => (lab (cheapest (arcsOf n f) n.places ((List.replicate n.places none).set s (some (0, [])))) v).isSome, ?_, ?_, fun i hi => ⟨fun h1 h2 => ?_, fun h1 h2 => ?_⟩⟩⟩
        · obtain ⟨c, W, h, _⟩ := D.src
          show (lab _ s).isSome = true
          rw [h]; rfl
        · show (lab _ t).isSome = false
          unfold lab; rw [e]; rfl
        · have hf := S.flow.feas i hi
          by_cases q : fl f i < (fn n).h i
          · obtain ⟨y, hy⟩ := Option.isSome_iff_exists.mp h1
            obtain ⟨c', W', h3, _⟩ := D.arc (onArc n f i) (mem_arcs.mpr ⟨i, hi, .inl ⟨by have e3 : fl f i = ((f.getD i 0 : Nat) : Int) := rfl; have e4 : (fn n).h i = ((pp n i).holds : Int) := rfl; omega, rfl⟩⟩) y.1 y.2 hy
            have h3' : lab (cheapest (arcsOf n f) n.places ((List.replicate n.places none).set s (some (0, [])))) ((fn n).b i) = some (c', W') := h3
            have h2' : (lab _ ((fn n).b i)).isSome = false := h2
            rw [h3'] at h2'; cases h2'
          · omega
        · have hf := S.flow.feas i hi
          by_cases q : 0 < fl f i
          · obtain ⟨y, hy⟩ := Option.isSome_iff_exists.mp h2
            obtain ⟨c', W', h3, _⟩ := D.arc (offArc n f i) (mem_arcs.mpr ⟨i, hi, .inr ⟨by have e3 : fl f i = ((f.getD i 0 : Nat) : Int) := rfl; omega, rfl⟩⟩) y.1 y.2 hy
            have h3' : lab (cheapest (arcsOf n f) n.places ((List.replicate n.places none).set s (some (0, [])))) ((fn n).a i) = some (c', W') := h3
            have h1' : (lab _ ((fn n).a i)).isSome = false := h1
            rw [h3'] at h1'; cases h1'
          · omega
      | some w =>
        dsimp only
        obtain ⟨a1, a2, a3⟩ := augment (left := left) r hs hst S (Nat.pos_of_ne_zero q) D (c := w.1) (W := w.2) e
        have hlt : left - w.2.foldl (fun (m : Nat) (x : Arc) => min m x.most) left < k := by omega
        have := ih (left - w.2.foldl (fun (m : Nat) (x : Arc) => min m x.most) left) _ _ hlt a3
        have e5 : v + w.2.foldl (fun (m : Nat) (x : Arc) => min m x.most) left + (left - w.2.foldl (fun (m : Nat) (x : Arc) => min m x.most) left) = v + left := by omega
        rw [e5] at this
        exact this
theorem fl_zero (m i : Nat) : fl (List.replicate m 0) i = 0 := by
  unfold fl
  rw [List.getD_eq_getElem?_getD, List.getElem?_replicate]
  split <;> rfl
theorem sentOf_ok {n : Net} {s t : Nat} (r : Right n) (hs : s < n.places) (hst : s ≠ t) (most : Nat) :
    Sd n s t (sentOf n s t most).1 (sentOf n s t most).2 ∧ Full (fn n) s t (fl (sentOf n s t most).1) ((sentOf n s t most).2 : Int) (most : Int) := by
  have := sending_ok r hs hst (most + 1) most (List.replicate n.pipes.length 0) 0 (by omega) ⟨by simp, ⟨fun i hi => by rw [fl_zero]; exact ⟨Int.le_refl _, Int.natCast_nonneg _⟩, fun p hp => ?_⟩, fun _ => 0, fun i hi => ⟨fun _ => ?_, fun h => ?_⟩⟩
  · rw [Nat.zero_add] at this; exact this
  · unfold dv
    rw [sm_congr (h := fun _ => 0) (fun i hi => by rw [fl_zero]; simp), sm_zero]
    unfold sup; simp
  · have : (0 : Int) ≤ (fn n).c i := Int.natCast_nonneg _
    show 0 ≤ (fn n).c i + 0 - 0
    omega
  · rw [fl_zero] at h; omega
end Pn
set_option linter.all false
namespace Pn
open Sw14
def Clo (N : FN) (F : Nat → Int) (R : Nat → Bool) : Prop := ∀ i, i < N.m → (F i < N.h i → R (N.a i) = true → R (N.b i) = true) ∧ (0 < F i → R (N.b i) = true → R (N.a i) = true)
def BClo (N : FN) (F : Nat → Int) (R : Nat → Bool) : Prop := ∀ i, i < N.m → (F i < N.h i → R (N.b i) = true → R (N.a i) = true) ∧ (0 < F i → R (N.a i) = true → R (N.b i) = true)
structure Least (N : FN) (F : Nat → Int) (s : Nat) (R : Nat → Bool) : Prop where
  src : R s = true
  clo : Clo N F R
  min : ∀ R' : Nat → Bool, R' s = true → Clo N F R' → ∀ p, R p = true → R' p = true
structure LeastB (N : FN) (F : Nat → Int) (t : Nat) (R : Nat → Bool) : Prop where
  src : R t = true
  clo : BClo N F R
  min : ∀ R' : Nat → Bool, R' t = true → BClo N F R' → ∀ p, R p = true → R' p = true
variable {N : FN} {F G : Nat → Int} {s t : Nat} {v w : Int} {R R' : Nat → Bool}
theorem cut_of_clo (f : Feas N F) (c : Clo N F R) : Cut N R F := fun i hi => by
  have := f i hi; have ⟨c1, c2⟩ := c i hi
  constructor
  · intro h1 h2
    by_cases q : F i < N.h i
    · have := c1 q h1; rw [h2] at this; cases this
    · omega
  · intro h1 h2
    by_cases q : 0 < F i
    · have := c2 q h2; rw [h1] at this; cases this
    · omega
theorem clo_of_cut (c : Cut N R F) : Clo N F R := fun i hi => by
  have ⟨c1, c2⟩ := c i hi
  constructor
  · intro q h1
    cases h2 : R (N.b i) with
    | true => rfl
    | false => have := c1 h1 h2; omega
  · intro q h1
    cases h2 : R (N.a i) with
    | true => rfl
    | false => have := c2 h2 h1; omega
theorem bclo_iff : BClo N F R ↔ Clo N F (fun p => !R p) := by
  constructor
  · intro c i hi
    obtain ⟨c1, c2⟩ := c i hi
    constructor
    · intro q h1
      cases h2 : R (N.b i) with
      | true => have := c1 q h2; simp [this] at h1
      | false => simp [h2]
    · intro q h1
      cases h2 : R (N.a i) with
      | true => have := c2 q h2; simp [this] at h1
      | false => simp [h2]
  · intro c i hi
    obtain ⟨c1, c2⟩ := c i hi
    constructor
    · intro q h1
      cases h2 : R (N.a i) with
      | true => rfl
      | false => have := c1 q (by simp [h2]); simp [h1] at this
    · intro q h1
      cases h2 : R (N.b i) with
      | true => rfl
      | false => have := c2 q (by simp [h2]); simp [h1] at this
theorem least_sub (g : N.Good) (hs : s < N.n) (ht : t < N.n) {most : Int} (fF : IsFlow N s t F v) (fG : IsFlow N s t G v) (hv : v < most) (cF : Full N s t F v most) (lF : Least N F s R) (lG : Least N G s R') : ∀ p, R' p = true → R p = true := by
  obtain ⟨_, h | ⟨R0, a1, a2, a3⟩⟩ := cF
  · omega
  have rt : R t = false := by
    cases e : R t with
    | false => rfl
    | true => have := lF.min R0 a1 (clo_of_cut a3) t e; rw [a2] at this; cases this
  exact lG.min R lF.src (clo_of_cut (cut_move g hs ht fF fG lF.src rt (cut_of_clo fF.feas lF.clo)))
theorem least_eq (g : N.Good) (hs : s < N.n) (ht : t < N.n) {most : Int} (fF : IsFlow N s t F v) (fG : IsFlow N s t G v) (hv : v < most) (cF : Full N s t F v most) (cG : Full N s t G v most) (lF : Least N F s R) (lG : Least N G s R') : ∀ p, R p = R' p := fun p => by
  have h1 := least_sub g hs ht fF fG hv cF lF lG p
  have h2 := least_sub g hs ht fG fF hv cG lG lF p
  cases e : R p <;> cases e' : R' p <;> simp_all
theorem leastB_sub (g : N.Good) (hs : s < N.n) (ht : t < N.n) {most : Int} (fF : IsFlow N s t F v) (fG : IsFlow N s t G v) (hv : v < most) (cF : Full N s t F v most) (lF : LeastB N F t R) (lG : LeastB N G t R') : ∀ p, R' p = true → R p = true := by
  obtain ⟨_, h | ⟨R0, a1, a2, a3⟩⟩ := cF
  · omega
  have hb : BClo N F (fun p => !R0 p) := bclo_iff.mpr (by
    have : (fun p => !(!R0 p)) = R0 := by funext p; simp
    rw [this]; exact clo_of_cut a3)
  have rs : R s = false := by
    cases e : R s with
    | false => rfl
    | true => have := lF.min _ (by simp [a2]) hb s e; simp [a1] at this
  have c1 : Cut N (fun p => !R p) F := cut_of_clo fF.feas (bclo_iff.mp lF.clo)
  have c2 : Cut N (fun p => !R p) G := cut_move g hs ht fF fG (by simp [rs]) (by simp [lF.src]) c1
  exact lG.min R lF.src (bclo_iff.mpr (clo_of_cut c2))
theorem leastB_eq (g : N.Good) (hs : s < N.n) (ht : t < N.n) {most : Int} (fF : IsFlow N s t F v) (fG : IsFlow N s t G v) (hv : v < most) (cF : Full N s t F v most) (cG : Full N s t G v most) (lF : LeastB N F t R) (lG : LeastB N G t R') : ∀ p, R p = R' p := fun p => by
  have h1 := leastB_sub g hs ht fF fG hv cF lF lG p
  have h2 := leastB_sub g hs ht fG fF hv cG lG lF p
  cases e : R p <;> cases e' : R' p <;> simp_all
/-! the specification's reached places -/
def newOf (L : List Arc) (l : List Nat) : List Nat := (L.filterMap fun (x : Arc) => if l.contains x.a = true ∧ l.contains x.b = false then some x.b else none).eraseDups
theorem reached_succ (L : List Arc) (k : Nat) (l : List Nat) : reached L (k + 1) l = reached L k (l ++ newOf L l) := rfl
theorem mem_newOf {L : List Arc} {l : List Nat} {p : Nat} : p ∈ newOf L l ↔ ∃ x, x ∈ L ∧ x.a ∈ l ∧ p ∉ l ∧ x.b = p := by
  unfold newOf
  rw [List.mem_eraseDups, List.mem_filterMap]
  constructor
  · rintro ⟨x, hx, h⟩
    split at h
    · cases h
      rename_i q
      refine ⟨x, hx, by simpa using q.1, ?_, rfl⟩
      have := q.2
      simp at this
      exact this
    · cases h
  · rintro ⟨x, hx, h1, h2, rfl⟩
    exact ⟨x, hx, by rw [if_pos ⟨by simpa using h1, by simpa using h2⟩]⟩
theorem nd_dups : ∀ (k : Nat) (l : List Nat), l.length ≤ k → l.eraseDups.Nodup := by
  intro k
  induction k with
  | zero =>
    intro l h
    have e : l = [] := List.length_eq_zero_iff.mp (by omega)
    rw [e]; simp
  | succ k ih =>
    intro l h
    cases l with
    | nil => simp
    | cons a l =>
      rw [List.eraseDups_cons, List.nodup_cons]
      refine ⟨fun q => ?_, ih _ ?_⟩
      · rw [List.mem_eraseDups, List.mem_filter] at q
        simp at q
      · have := List.length_filter_le (fun b => !b == a) l
        simp at h
        omega
theorem reached_ok {L : List Arc} {n : Nat} (hL : ∀ x, x ∈ L → x.a < n ∧ x.b < n) : ∀ (k : Nat) (l : List Nat), l.Nodup → (∀ p, p ∈ l → p < n) →
    (reached L k l).Nodup ∧ (∀ p, p ∈ reached L k l → p < n) ∧ (∀ p, p ∈ l → p ∈ reached L k l) ∧ (∀ R : Nat → Bool, (∀ p, p ∈ l → R p = true) → (∀ x, x ∈ L → R x.a = true → R x.b = true) → ∀ p, p ∈ reached L k l → R p = true) ∧
    ((∀ x, x ∈ L → x.a ∈ reached L k l → x.b ∈ reached L k l) ∨ l.length + k ≤ (reached L k l).length) := by
  intro k
  induction k with
  | zero => intro l nd hl; exact ⟨nd, hl, fun _ h => h, fun R h _ p hp => h p hp, .inr (Nat.le_refl _)⟩
  | succ k ih =>
    intro l nd hl
    rw [reached_succ]
    have nd' : (l ++ newOf L l).Nodup := List.nodup_append.mpr ⟨nd, nd_dups _ _ (Nat.le_refl _), fun a ha b hb e => by
      subst e
      obtain ⟨x, _, _, h, _⟩ := mem_newOf.mp hb
      exact h ha⟩
    have hl' : ∀ p, p ∈ l ++ newOf L l → p < n := fun p hp => by
      rcases List.mem_append.mp hp with h | h
      · exact hl p h
      · obtain ⟨x, h1, _, _, rfl⟩ := mem_newOf.mp h
        exact (hL x h1).2
    obtain ⟨a1, a2, a3, a4, a5⟩ := ih (l ++ newOf L l) nd' hl'
    refine ⟨a1, a2, fun p hp => a3 p (List.mem_append_left _ hp), fun R h1 h2 => a4 R (fun p hp => ?_) h2, ?_⟩
    · rcases List.mem_append.mp hp with h | h
      · exact h1 p h
      · obtain ⟨x, h3, h4, _, rfl⟩ := mem_newOf.mp h
        exact h2 x h3 (h1 _ h4)
    · by_cases q : newOf L l = []
      · left
        have closed : ∀ x, x ∈ L → x.a ∈ l → x.b ∈ l := fun x hx h1 => by
          by_cases q2 : x.b ∈ l
          · exact q2
          · have := mem_newOf.mpr ⟨x, hx, h1, q2, rfl⟩
            rw [q] at this; cases this
        have : ∀ p, p ∈ reached L k (l ++ newOf L l) → p ∈ l := fun p hp => by
          have := a4 (fun p => decide (p ∈ l)) (fun p hp => by rw [q, List.append_nil] at hp; simpa using hp) (fun x hx h => by simp at h ⊢; exact closed x hx h) p hp
          simpa using this
        intro x hx h
        exact a3 _ (List.mem_append_left _ (closed x hx (this _ h)))
      · rcases a5 with h | h
        · exact .inl h
        · right
          have : 0 < (newOf L l).length := List.length_pos_iff.mpr q
          rw [List.length_append] at h
          omega
theorem reached_end {L : List Arc} {n s : Nat} (hL : ∀ x, x ∈ L → x.a < n ∧ x.b < n) (hs : s < n) :
    s ∈ reached L n [s] ∧ (∀ p, p ∈ reached L n [s] → p < n) ∧ (∀ x, x ∈ L → x.a ∈ reached L n [s] → x.b ∈ reached L n [s]) ∧ ∀ R : Nat → Bool, R s = true → (∀ x, x ∈ L → R x.a = true → R x.b = true) → ∀ p, p ∈ reached L n [s] → R p = true := by
  obtain ⟨a1, a2, a3, a4, a5⟩ := reached_ok hL n [s] (by simp) (fun p hp => by simp at hp; omega)
  refine ⟨a3 s (by simp), a2, ?_, fun R h => a4 R (fun p hp => by simp at hp; rw [hp]; exact h)⟩
  rcases a5 with h | h
  · exact h
  · have := nodup_lt n _ a1 a2
    simp at h
    omega
def swp (x : Arc) : Arc := { x with a := x.b, b := x.a }
theorem reaching_eq (L : List Arc) : ∀ (k : Nat) (l : List Nat), reaching L k l = reached (L.map swp) k l := by
  intro k
  induction k with
  | zero => intro l; rfl
  | succ k ih =>
    intro l
    show reaching L k _ = reached (L.map swp) k _
    rw [ih]
    congr 3
    rw [List.filterMap_map]
    rfl
theorem clo_arcs {n : Net} {f : List Nat} {R : Nat → Bool} : Clo (fn n) (fl f) R ↔ ∀ x, x ∈ arcsOf n f → R x.a = true → R x.b = true := by
  constructor
  · intro c x hx
    obtain ⟨i, hi, h⟩ := mem_arcs.mp hx
    obtain ⟨c1, c2⟩ := c i hi
    rcases h with ⟨h1, rfl⟩ | ⟨h1, rfl⟩
    · exact c1 (by show ((f.getD i 0 : Nat) : Int) < ((pp n i).holds : Int); omega)
    · exact c2 (by show (0 : Int) < ((f.getD i 0 : Nat) : Int); omega)
  · intro h i hi
    constructor
    · intro q
      exact h (onArc n f i) (mem_arcs.mpr ⟨i, hi, .inl ⟨by have q' : ((f.getD i 0 : Nat) : Int) < ((pp n i).holds : Int) := q; omega, rfl⟩⟩)
    · intro q
      exact h (offArc n f i) (mem_arcs.mpr ⟨i, hi, .inr ⟨by have q' : (0 : Int) < ((f.getD i 0 : Nat) : Int) := q; omega, rfl⟩⟩)
theorem bclo_arcs {n : Net} {f : List Nat} {R : Nat → Bool} : BClo (fn n) (fl f) R ↔ ∀ x, x ∈ (arcsOf n f).map swp → R x.a = true → R x.b = true := by
  constructor
  · intro c x hx
    obtain ⟨y, hy, rfl⟩ := List.mem_map.mp hx
    obtain ⟨i, hi, h⟩ := mem_arcs.mp hy
    obtain ⟨c1, c2⟩ := c i hi
    rcases h with ⟨h1, rfl⟩ | ⟨h1, rfl⟩
    · exact c1 (by show ((f.getD i 0 : Nat) : Int) < ((pp n i).holds : Int); omega)
    · exact c2 (by show (0 : Int) < ((f.getD i 0 : Nat) : Int); omega)
  · intro h i hi
    constructor
    · intro q
      exact h (swp (onArc n f i)) (List.mem_map_of_mem (mem_arcs.mpr ⟨i, hi, .inl ⟨by have q' : ((f.getD i 0 : Nat) : Int) < ((pp n i).holds : Int) := q; omega, rfl⟩⟩))
    · intro q
      exact h (swp (offArc n f i)) (List.mem_map_of_mem (mem_arcs.mpr ⟨i, hi, .inr ⟨by have q' : (0 : Int) < ((f.getD i 0 : Nat) : Int) := q; omega, rfl⟩⟩))
theorem spec_least {n : Net} (r : Right n) {f : List Nat} {s : Nat} (hs : s < n.places) : Least (fn n) (fl f) s (fun p => (reached (arcsOf n f) n.places [s]).contains p) := by
  obtain ⟨a1, a2, a3, a4⟩ := reached_end (arcs_lt (f := f) r) hs
  refine ⟨by simpa using a1, clo_arcs.mpr fun x hx h => ?_, fun R' h c p hp => a4 R' h (clo_arcs.mp c) p (by simpa using hp)⟩
  simp at h ⊢
  exact a3 x hx h
theorem spec_leastB {n : Net} (r : Right n) {f : List Nat} {t : Nat} (ht : t < n.places) : LeastB (fn n) (fl f) t (fun p => (reaching (arcsOf n f) n.places [t]).contains p) := by
  rw [reaching_eq]
  obtain ⟨a1, a2, a3, a4⟩ := reached_end (L := (arcsOf n f).map swp) (n := n.places) (fun x hx => by
    obtain ⟨y, hy, rfl⟩ := List.mem_map.mp hx
    have := arcs_lt r y hy
    exact ⟨this.2, this.1⟩) ht
  refine ⟨by simpa using a1, bclo_arcs.mpr fun x hx h => ?_, fun R' h c p hp => a4 R' h (bclo_arcs.mp c) p (by simpa using hp)⟩
  simp at h ⊢
  exact a3 x (by simpa using hx) h
/-- the specification's wall, by the least set of another flow of the same value -/
theorem wall_near {n : Net} (r : Right n) {f : List Nat} {s t : Nat} (hs : s < n.places) (ht : t < n.places) {F : Nat → Int} {v most : Int} {R : Nat → Bool}
    (ff : IsFlow (fn n) s t (fl f) v) (fF : IsFlow (fn n) s t F v) (hv : v < most) (cf : Full (fn n) s t (fl f) v most) (cF : Full (fn n) s t F v most) (lF : Least (fn n) F s R) :
    wallOf n s t false f = (List.range n.places).filter R := by
  have := least_eq (good_of r) hs ht ff fF hv cf cF (spec_least r hs) lF
  unfold wallOf
  rw [if_neg (by decide)]
  exact List.filter_congr fun p _ => this p
theorem wall_far {n : Net} (r : Right n) {f : List Nat} {s t : Nat} (hs : s < n.places) (ht : t < n.places) {F : Nat → Int} {v most : Int} {R : Nat → Bool}
    (ff : IsFlow (fn n) s t (fl f) v) (fF : IsFlow (fn n) s t F v) (hv : v < most) (cf : Full (fn n) s t (fl f) v most) (cF : Full (fn n) s t F v most) (lF : LeastB (fn n) F t R) :
    wallOf n s t true f = (List.range n.places).filter (fun p => !R p) := by
  have := leastB_eq (good_of r) hs ht ff fF hv cf cF (spec_leastB r ht) lF
  unfold wallOf
  rw [if_pos rfl]
  exact List.filter_congr fun p _ => by rw [← this p]
end Pn
set_option linter.all false
namespace Pn
/-! lanes: two a pipe -/
def ot (j : Nat) : Nat := if j % 2 = 0 then j + 1 else j - 1
theorem ot_ot (j : Nat) : ot (ot j) = j := by unfold ot; split <;> split <;> omega
theorem ot_ne (j : Nat) : ot j ≠ j := by unfold ot; split <;> omega
theorem ot_lt {j m : Nat} (h : j < 2 * m) : ot j < 2 * m := by unfold ot; split <;> omega
theorem ot_div (j : Nat) : ot j / 2 = j / 2 := by unfold ot; split <;> omega
theorem ot_mod (j : Nat) : ot j % 2 = 0 ↔ ¬ j % 2 = 0 := by unfold ot; split <;> omega
def tl (N : FN) (j : Nat) : Nat := if j % 2 = 0 then N.a (j / 2) else N.b (j / 2)
def hd (N : FN) (j : Nat) : Nat := if j % 2 = 0 then N.b (j / 2) else N.a (j / 2)
def pr (N : FN) (j : Nat) : Int := if j % 2 = 0 then N.c (j / 2) else -N.c (j / 2)
variable {N : FN}
theorem hd_ot (j : Nat) : hd N (ot j) = tl N j := by
  unfold hd tl; rw [ot_div]
  by_cases h : j % 2 = 0
  · rw [if_neg (by rw [ot_mod]; omega), if_pos h]
  · rw [if_pos (by rw [ot_mod]; exact h), if_neg h]
theorem tl_ot (j : Nat) : tl N (ot j) = hd N j := by rw [← hd_ot, ot_ot]
theorem pr_ot (j : Nat) : pr N (ot j) = -pr N j := by
  unfold pr; rw [ot_div]
  by_cases h : j % 2 = 0
  · rw [if_neg (by rw [ot_mod]; omega), if_pos h]
  · rw [if_pos (by rw [ot_mod]; exact h), if_neg h, Int.neg_neg]
theorem tl_lt (g : N.Good) {j : Nat} (h : j < 2 * N.m) : tl N j < N.n := by
  unfold tl; split
  · exact g.ha _ (by omega)
  · exact g.hb _ (by omega)
theorem hd_lt (g : N.Good) {j : Nat} (h : j < 2 * N.m) : hd N j < N.n := by
  rw [← tl_ot]; exact tl_lt g (ot_lt h)
def lanesOf (N : FN) (v : Nat) : List Nat := (List.range (2 * N.m)).filter fun j => decide (tl N j = v)
theorem mem_lanes {v j : Nat} : j ∈ lanesOf N v ↔ j < 2 * N.m ∧ tl N j = v := by
  unfold lanesOf; rw [List.mem_filter, List.mem_range]; simp
/-- an item, 0 where there's none -/
def g (r : List Int) (j : Nat) : Int := r.getD j 0
theorem g_set {r : List Int} {j : Nat} (y : Int) (h : j < r.length) (k : Nat) : g (r.set j y) k = if k = j then y else g r k := by
  unfold g
  rw [List.getD_eq_getElem?_getD, List.getElem?_set, List.getD_eq_getElem?_getD]
  by_cases e : j = k
  · rw [if_pos e, if_pos e.symm, if_pos h]; rfl
  · rw [if_neg e, if_neg (fun q => e q.symm)]
theorem g_some {r : List Int} {j : Nat} (h : j < r.length) : r[j]? = some (g r j) := by
  unfold g; rw [List.getD_eq_getElem?_getD, List.getElem?_eq_getElem h]; rfl
def Fl (r : List Int) (i : Nat) : Int := g r (2 * i + 1)
structure RoomOk (N : FN) (r : List Int) : Prop where
  len : r.length = 2 * N.m
  sum : ∀ i, i < N.m → g r (2 * i) + g r (2 * i + 1) = N.h i
  nn : ∀ j, j < 2 * N.m → 0 ≤ g r j
theorem RoomOk.feas {r : List Int} (h : RoomOk N r) : Feas N (Fl r) := fun i hi => by
  have h1 := h.sum i hi
  have h2 := h.nn (2 * i) (by omega)
  have h3 := h.nn (2 * i + 1) (by omega)
  unfold Fl; omega
/-- units more along a lane -/
def ps1 (u : Int) (r : List Int) (j : Nat) : List Int := (r.set j (g r j - u)).set (ot j) (g (r.set j (g r j - u)) (ot j) + u)
theorem ps1_len (u : Int) (r : List Int) (j : Nat) : (ps1 u r j).length = r.length := by unfold ps1; simp
theorem g_ps1 {u : Int} {r : List Int} {j : Nat} (hl : r.length = 2 * N.m) (hj : j < 2 * N.m) (k : Nat) : g (ps1 u r j) k = if k = j then g r j - u else if k = ot j then g r (ot j) + u else g r k := by
  unfold ps1
  rw [g_set _ (by rw [List.length_set, hl]; exact ot_lt hj), g_set _ (by rw [hl]; exact hj), g_set _ (by rw [hl]; exact hj), if_neg (ot_ne j)]
  by_cases h1 : k = ot j
  · rw [if_pos h1, if_neg (fun q => ot_ne j (by rw [← h1]; exact q)), if_pos h1]
  · rw [if_neg h1, if_neg h1]
def sg (j : Nat) (u : Int) : Int := if j % 2 = 0 then u else -u
theorem Fl_ps1 {u : Int} {r : List Int} {j : Nat} (hl : r.length = 2 * N.m) (hj : j < 2 * N.m) (i : Nat) : Fl (ps1 u r j) i = Fl r i + (if i = j / 2 then sg j u else 0) := by
  unfold Fl
  rw [g_ps1 hl hj]
  unfold sg
  by_cases h : j % 2 = 0
  · rw [if_pos h]
    have e : ot j = j + 1 := by unfold ot; rw [if_pos h]
    rw [e]
    by_cases h2 : i = j / 2
    · have e2 : 2 * i + 1 = j + 1 := by omega
      rw [if_pos h2, if_neg (by omega), if_pos e2, e2]
    · rw [if_neg h2, if_neg (by omega), if_neg (by omega)]; omega
  · rw [if_neg h]
    have e : ot j = j - 1 := by unfold ot; rw [if_neg h]
    rw [e]
    by_cases h2 : i = j / 2
    · have e2 : 2 * i + 1 = j := by omega
      rw [if_pos h2, if_pos e2, e2]; omega
    · rw [if_neg h2, if_neg (by omega), if_neg (by omega)]; omega
def ind (p q : Nat) : Int := if p = q then 1 else 0
theorem dv_ps1 {u : Int} {r : List Int} {j : Nat} (hl : r.length = 2 * N.m) (hj : j < 2 * N.m) (p : Nat) :
    dv N (Fl (ps1 u r j)) p = dv N (Fl r) p + u * (ind p (tl N j) - ind p (hd N j)) := by
  unfold dv
  rw [sm_change (m := N.m) (k := j / 2) (by omega) (fun i => (if N.a i = p then Fl r i else 0) - (if N.b i = p then Fl r i else 0))]
  · congr 1
    rw [Fl_ps1 hl hj, if_pos rfl]
    unfold sg tl hd ind
    by_cases h : j % 2 = 0
    · simp only [h, if_true]
      generalize N.a (j / 2) = x
      generalize N.b (j / 2) = y
      by_cases h1 : x = p
      · subst h1
        by_cases h2 : y = x
        · subst h2; simp
        · rw [if_pos rfl, if_neg h2, if_pos rfl, if_neg h2, if_pos rfl, if_neg (fun q => h2 q.symm)]; omega
      · by_cases h2 : y = p
        · subst h2
          rw [if_pos rfl, if_neg h1, if_pos rfl, if_neg h1, if_pos rfl, if_neg (fun q => h1 q.symm)]; omega
        · rw [if_neg h1, if_neg h1, if_neg h2, if_neg h2, if_neg (fun q => h1 q.symm), if_neg (fun q => h2 q.symm)]; simp
    · simp only [h, if_false]
      generalize N.a (j / 2) = x
      generalize N.b (j / 2) = y
      by_cases h1 : x = p
      · subst h1
        by_cases h2 : y = x
        · subst h2; simp
        · rw [if_pos rfl, if_neg h2, if_pos rfl, if_neg h2, if_pos rfl, if_neg (fun q => h2 q.symm)]; omega
      · by_cases h2 : y = p
        · subst h2
          rw [if_pos rfl, if_neg h1, if_pos rfl, if_neg h1, if_pos rfl, if_neg (fun q => h1 q.symm)]; omega
        · rw [if_neg h1, if_neg h1, if_neg h2, if_neg h2, if_neg (fun q => h2 q.symm), if_neg (fun q => h1 q.symm)]; simp
  · intro i hi hne
    rw [Fl_ps1 hl hj, if_neg hne, Int.add_zero]
theorem room_ps1 {u : Int} {r : List Int} {j : Nat} (h : RoomOk N r) (hj : j < 2 * N.m) (hu : 0 ≤ u) (hr : u ≤ g r j) : RoomOk N (ps1 u r j) where
  len := by rw [ps1_len]; exact h.len
  sum i hi := by
    have := h.sum i hi
    rw [g_ps1 h.len hj, g_ps1 h.len hj]
    by_cases q : j % 2 = 0
    · have e : ot j = j + 1 := by unfold ot; rw [if_pos q]
      rw [e]
      by_cases h2 : i = j / 2
      · have e1 : 2 * i = j := by omega
        rw [e1] at this ⊢
        rw [if_pos rfl, if_neg (by omega), if_pos rfl]; omega
      · rw [if_neg (by omega), if_neg (by omega), if_neg (by omega), if_neg (by omega)]; exact this
    · have e : ot j = j - 1 := by unfold ot; rw [if_neg q]
      rw [e]
      by_cases h2 : i = j / 2
      · have e1 : 2 * i + 1 = j := by omega
        have e2 : 2 * i = j - 1 := by omega
        rw [e1, e2] at this ⊢
        rw [if_neg (by omega), if_pos rfl, if_pos rfl]; omega
      · rw [if_neg (by omega), if_neg (by omega), if_neg (by omega), if_neg (by omega)]; exact this
  nn k hk := by
    have h1 := h.nn k hk
    have h2 := h.nn (ot j) (ot_lt hj)
    rw [g_ps1 h.len hj]
    split
    · omega
    · split <;> omega
def pushL (u : Int) (r : List Int) (path : List Nat) : List Int := path.foldl (ps1 u) r
/-- how often the path's lanes begin at p, less how often they end there -/
def ends (N : FN) : List Nat → Nat → Int
  | [], _ => 0
  | j :: l, p => (ind p (tl N j) - ind p (hd N j)) + ends N l p
theorem ends_append (l l' : List Nat) (p : Nat) : ends N (l ++ l') p = ends N l p + ends N l' p := by
  induction l with
  | nil => simp [ends]
  | cons j l ih => simp only [List.cons_append, ends, ih]; omega
theorem pushL_ok {u : Int} (hu : 0 ≤ u) : ∀ (path : List Nat) (r : List Int), RoomOk N r → path.Nodup → (∀ j, j ∈ path → j < 2 * N.m ∧ u ≤ g r j) →
    RoomOk N (pushL u r path) ∧ (∀ p, dv N (Fl (pushL u r path)) p = dv N (Fl r) p + u * ends N path p) ∧ (∀ k, k < 2 * N.m → g (pushL u r path) k = g r k - (if k ∈ path then u else 0) + (if ot k ∈ path then u else 0)) := by
  intro path
  induction path with
  | nil => intro r h _ _; exact ⟨h, fun p => by simp [ends, pushL], fun k _ => by simp [pushL]⟩
  | cons j path ih =>
    intro r h nd hp
    obtain ⟨hj, hr⟩ := hp j (List.mem_cons_self ..)
    obtain ⟨n1, n2⟩ := List.nodup_cons.mp nd
    have h1 := room_ps1 h hj hu hr
    obtain ⟨a1, a2, a3⟩ := ih (ps1 u r j) h1 n2 (fun k hk => by
      obtain ⟨b1, b2⟩ := hp k (List.mem_cons_of_mem _ hk)
      refine ⟨b1, ?_⟩
      rw [g_ps1 h.len hj]
      have : k ≠ j := fun e => n1 (e ▸ hk)
      rw [if_neg this]
      split
      · rename_i q; rw [← q]; omega
      · exact b2)
    have e0 : pushL u r (j :: path) = pushL u (ps1 u r j) path := rfl
    rw [e0]
    refine ⟨a1, fun p => ?_, fun k hk => ?_⟩
    · rw [a2 p, dv_ps1 h.len hj]
      simp only [ends]
      rw [Int.mul_add]; omega
    · rw [a3 k hk, g_ps1 h.len hj]
      by_cases q1 : k = j
      · subst q1
        rw [if_pos rfl, if_neg n1, if_pos (List.mem_cons_self ..)]
        by_cases q2 : ot k ∈ path
        · rw [if_pos q2, if_pos (List.mem_cons_of_mem _ q2)]; omega
        · rw [if_neg q2, if_neg (fun q => (List.mem_cons.mp q).elim (fun q => ot_ne _ q) (fun q => q2 q))]; omega
      · rw [if_neg q1]
        have m1 : (k ∈ j :: path) ↔ k ∈ path := ⟨fun q => (List.mem_cons.mp q).elim (fun q => absurd q q1) (fun q => q), fun q => List.mem_cons_of_mem _ q⟩
        by_cases q2 : k = ot j
        · subst q2
          rw [if_pos rfl, ot_ot, if_pos (List.mem_cons_self ..), if_neg n1]
          simp only [m1]; omega
        · rw [if_neg q2]
          have m2 : (ot k ∈ j :: path) ↔ ot k ∈ path := ⟨fun q => (List.mem_cons.mp q).elim (fun q => absurd (by rw [← q, ot_ot]) q2) (fun q => q), fun q => List.mem_cons_of_mem _ q⟩
          simp only [m1, m2]
/-! closed sets and potentials by lanes -/
theorem clo_lanes {r : List Int} (h : RoomOk N r) {R : Nat → Bool} : Clo N (Fl r) R ↔ ∀ j, j < 2 * N.m → 0 < g r j → R (tl N j) = true → R (hd N j) = true := by
  constructor
  · intro c j hj hr
    obtain ⟨c1, c2⟩ := c (j / 2) (by omega)
    have hs := h.sum (j / 2) (by omega)
    unfold tl hd
    unfold Fl at c1 c2
    by_cases q : j % 2 = 0
    · rw [if_pos q, if_pos q]
      have e : 2 * (j / 2) = j := by omega
      rw [e] at hs c1
      exact c1 (by omega)
    · rw [if_neg q, if_neg q]
      have e : 2 * (j / 2) + 1 = j := by omega
      rw [e] at c2
      exact c2 hr
  · intro c i hi
    have hs := h.sum i hi
    constructor
    · intro q
      have := c (2 * i) (by omega) (by unfold Fl at q; omega)
      unfold tl hd at this
      rw [if_pos (by omega), if_pos (by omega), show 2 * i / 2 = i by omega] at this
      exact this
    · intro q
      have := c (2 * i + 1) (by omega) (by unfold Fl at q; omega)
      unfold tl hd at this
      rw [if_neg (by omega), if_neg (by omega), show (2 * i + 1) / 2 = i by omega] at this
      exact this
theorem bclo_lanes {r : List Int} (h : RoomOk N r) {R : Nat → Bool} : BClo N (Fl r) R ↔ ∀ j, j < 2 * N.m → 0 < g r (ot j) → R (tl N j) = true → R (hd N j) = true := by
  rw [bclo_iff, clo_lanes h]
  constructor
  · intro c j hj hr h1
    have := c (ot j) (ot_lt hj) hr
    rw [hd_ot, tl_ot] at this
    cases e : R (hd N j) with
    | true => rfl
    | false => have := this (by simp [e]); simp [h1] at this
  · intro c j hj hr h1
    have := c (ot j) (ot_lt hj) (by rw [ot_ot]; exact hr)
    rw [hd_ot, tl_ot] at this
    cases e : R (hd N j) with
    | false => simp [e]
    | true => have := this e; simp [this] at h1
theorem pot_lanes {r : List Int} (h : RoomOk N r) {pi : Nat → Int} (p : ∀ j, j < 2 * N.m → 0 < g r j → 0 ≤ pr N j + pi (tl N j) - pi (hd N j)) : Pot N pi (Fl r) := by
  intro i hi
  have hs := h.sum i hi
  constructor
  · intro q
    have := p (2 * i) (by omega) (by unfold Fl at q; omega)
    unfold tl hd pr at this
    rw [if_pos (by omega), if_pos (by omega), if_pos (by omega), show 2 * i / 2 = i by omega] at this
    exact this
  · intro q
    have := p (2 * i + 1) (by omega) (by unfold Fl at q; omega)
    unfold tl hd pr at this
    rw [if_neg (by omega), if_neg (by omega), if_neg (by omega), show (2 * i + 1) / 2 = i by omega] at this
    omega
/-- rooms without flow -/
def room0 (N : FN) : Nat → List Int
  | 0 => []
  | k + 1 => room0 N k ++ [N.h k, 0]
theorem room0_len (k : Nat) : (room0 N k).length = 2 * k := by
  induction k with
  | zero => rfl
  | succ k ih => simp [room0, ih]; omega
theorem room0_g (k i : Nat) (h : i < k) : g (room0 N k) (2 * i) = N.h i ∧ g (room0 N k) (2 * i + 1) = 0 := by
  induction k with
  | zero => omega
  | succ k ih =>
    unfold g
    simp only [room0, List.getD_eq_getElem?_getD]
    by_cases q : i = k
    · subst q
      rw [List.getElem?_append_right (by rw [room0_len]; omega), List.getElem?_append_right (by rw [room0_len]; omega), room0_len]
      simp
    · rw [List.getElem?_append_left (by rw [room0_len]; omega), List.getElem?_append_left (by rw [room0_len]; omega)]
      have := ih (by omega)
      unfold g at this
      simp only [List.getD_eq_getElem?_getD] at this
      exact this
theorem room0_ok (gd : N.Good) : RoomOk N (room0 N N.m) where
  len := room0_len _
  sum i hi := by have := room0_g (N := N) N.m i hi; omega
  nn j hj := by
    have := room0_g (N := N) N.m (j / 2) (by omega)
    by_cases q : j % 2 = 0
    · have e : 2 * (j / 2) = j := by omega
      rw [e] at this; have := gd.hh (j / 2) (by omega); omega
    · have e : 2 * (j / 2) + 1 = j := by omega
      rw [e] at this; omega
theorem room0_dv (p : Nat) : dv N (Fl (room0 N N.m)) p = 0 := by
  unfold dv
  rw [sm_congr (h := fun _ => 0) (fun i hi => by unfold Fl; rw [(room0_g (N := N) N.m i hi).2]; simp), sm_zero]
end Pn
set_option linter.all false
namespace Pn
variable {N : FN}
def opn (r : List Int) (o j : Nat) : Prop := 0 < g r (if o = 0 then j else ot j)
structure Bfs (N : FN) (r : List Int) (o s : Nat) (f : List Int) (row : List Nat) : Prop where
  len : f.length = N.n
  nd : row.Nodup
  lt : ∀ p, p ∈ row → p < N.n
  src : s ∈ row
  zero : g f s = 0
  pos : ∀ p, p ∈ row → 0 ≤ g f p
  neg : ∀ p, p < N.n → p ∉ row → g f p = -1
  par : ∀ p, p ∈ row → p ≠ s → ∃ j, j < 2 * N.m ∧ opn r o j ∧ hd N j = p ∧ tl N j ∈ row ∧ g f p = g f (tl N j) + 1
  min : ∀ R : Nat → Bool, R s = true → (∀ j, j < 2 * N.m → opn r o j → R (tl N j) = true → R (hd N j) = true) → ∀ p, p ∈ row → R p = true
theorem g_replicate (n : Nat) (y : Int) (p : Nat) (h : p < n) : g (List.replicate n y) p = y := by
  unfold g; rw [List.getD_eq_getElem?_getD, List.getElem?_replicate, if_pos h]; rfl
theorem bfs_init {r : List Int} {o s : Nat} (hs : s < N.n) : Bfs N r o s ((List.replicate N.n (-1)).set s 0) [s] := by
  have e : ∀ p, p < N.n → g ((List.replicate N.n (-1)).set s 0) p = if p = s then 0 else -1 := fun p hp => by
    rw [g_set _ (by simpa using hs)]
    split
    · rfl
    · exact g_replicate _ _ _ hp
  refine ⟨by simp, by simp, fun p hp => ?_, by simp, by rw [e s hs, if_pos rfl], fun p hp => ?_, fun p hp hn => ?_, fun p hp hn => ?_, fun R h _ p hp => ?_⟩
  · simp at hp; omega
  · simp at hp; rw [hp, e s hs, if_pos rfl]; omega
  · simp at hn; rw [e p hp, if_neg hn]
  · simp at hp; exact absurd hp hn
  · simp at hp; rw [hp]; exact h
theorem bfs_add {r f : List Int} {o s j : Nat} {row : List Nat} (gd : N.Good) (B : Bfs N r o s f row) (hj : j < 2 * N.m) (ht : tl N j ∈ row) (ho : opn r o j) (hn : g f (hd N j) < 0) :
    Bfs N r o s (f.set (hd N j) (g f (tl N j) + 1)) (row ++ [hd N j]) := by
  have hl := hd_lt gd hj
  have nm : hd N j ∉ row := fun h => by have := B.pos _ h; omega
  have e : ∀ p, g (f.set (hd N j) (g f (tl N j) + 1)) p = if p = hd N j then g f (tl N j) + 1 else g f p := fun p => g_set _ (by rw [B.len]; exact hl) p
  have ne : ∀ p, p ∈ row → p ≠ hd N j := fun p hp q => nm (q ▸ hp)
  refine ⟨by rw [List.length_set]; exact B.len, ?_, fun p hp => ?_, List.mem_append_left _ B.src, by rw [e, if_neg (ne _ B.src)]; exact B.zero, fun p hp => ?_, fun p hp hn' => ?_, fun p hp hs => ?_, fun R h1 h2 p hp => ?_⟩
  · refine List.nodup_append.mpr ⟨B.nd, by simp, fun a ha b hb q => ?_⟩
    simp at hb; subst hb; subst q; exact nm ha
  · rcases List.mem_append.mp hp with h | h
    · exact B.lt p h
    · simp at h; rw [h]; exact hl
  · rw [e]
    rcases List.mem_append.mp hp with h | h
    · rw [if_neg (ne p h)]; exact B.pos p h
    · simp at h; rw [if_pos h]; have := B.pos _ ht; omega
  · have h1 : p ∉ row := fun q => hn' (List.mem_append_left _ q)
    have h2 : p ≠ hd N j := fun q => hn' (List.mem_append_right _ (by simp [q]))
    rw [e, if_neg h2]; exact B.neg p hp h1
  · rcases List.mem_append.mp hp with h | h
    · obtain ⟨k, h1, h2, h3, h4, h5⟩ := B.par p h hs
      exact ⟨k, h1, h2, h3, List.mem_append_left _ h4, by rw [e, e, if_neg (ne p h), if_neg (ne _ h4)]; exact h5⟩
    · simp at h
      exact ⟨j, hj, ho, h.symm, List.mem_append_left _ ht, by rw [e, e, if_pos h, if_neg (ne _ ht)]⟩
  · rcases List.mem_append.mp hp with h | h
    · exact B.min R h1 h2 p h
    · simp at h; rw [h]; exact h2 j hj ho (B.min R h1 h2 _ ht)
structure Steps (N : FN) (r : List Int) (o s : Nat) (f : List Int) : Prop where
  len : f.length = N.n
  slt : s < N.n
  zero : g f s = 0
  clo : ∀ j, j < 2 * N.m → opn r o j → 0 ≤ g f (tl N j) → 0 ≤ g f (hd N j)
  par : ∀ p, p < N.n → 0 ≤ g f p → p ≠ s → ∃ j, j < 2 * N.m ∧ opn r o j ∧ hd N j = p ∧ 0 ≤ g f (tl N j) ∧ g f p = g f (tl N j) + 1
  min : ∀ R : Nat → Bool, R s = true → (∀ j, j < 2 * N.m → opn r o j → R (tl N j) = true → R (hd N j) = true) → ∀ p, p < N.n → 0 ≤ g f p → R p = true
theorem Bfs.done {r f : List Int} {o s : Nat} {row : List Nat} (gd : N.Good) (B : Bfs N r o s f row) (h : ∀ p, p ∈ row → ∀ j, j ∈ lanesOf N p → opn r o j → hd N j ∈ row) : Steps N r o s f := by
  have mem : ∀ p, p < N.n → 0 ≤ g f p → p ∈ row := fun p hp h0 => by
    by_cases q : p ∈ row
    · exact q
    · have := B.neg p hp q; omega
  refine ⟨B.len, B.lt s B.src, B.zero, fun j hj ho h0 => ?_, fun p hp h0 hs => ?_, fun R h1 h2 p hp h0 => B.min R h1 h2 p (mem p hp h0)⟩
  · exact B.pos _ (h _ (mem _ (tl_lt gd hj) h0) j (mem_lanes.mpr ⟨hj, rfl⟩) ho)
  · obtain ⟨j, h1, h2, h3, h4, h5⟩ := B.par p (mem p hp h0) hs
    exact ⟨j, h1, h2, h3, B.pos _ h4, h5⟩
def pset (n : Nat) (f : List Int) (p : Nat) : Bool := decide (p < n) && decide (0 ≤ g f p)
theorem pset_iff {n : Nat} {f : List Int} {p : Nat} : pset n f p = true ↔ p < n ∧ 0 ≤ g f p := by simp [pset]
theorem Steps.least {r f : List Int} {s : Nat} (gd : N.Good) (h : RoomOk N r) (S : Steps N r 0 s f) : Least N (Fl r) s (pset N.n f) := by
  refine ⟨pset_iff.mpr ⟨S.slt, by rw [S.zero]; omega⟩, (clo_lanes h).mpr fun j hj hr hp => ?_, fun R h1 h2 p hp => ?_⟩
  · exact pset_iff.mpr ⟨hd_lt gd hj, S.clo j hj hr (pset_iff.mp hp).2⟩
  · obtain ⟨a, b⟩ := pset_iff.mp hp
    exact S.min R h1 (fun j hj ho => (clo_lanes h).mp h2 j hj ho) p a b
theorem Steps.leastB {r f : List Int} {s : Nat} (gd : N.Good) (h : RoomOk N r) (S : Steps N r 1 s f) : LeastB N (Fl r) s (pset N.n f) := by
  refine ⟨pset_iff.mpr ⟨S.slt, by rw [S.zero]; omega⟩, (bclo_lanes h).mpr fun j hj hr hp => ?_, fun R h1 h2 p hp => ?_⟩
  · exact pset_iff.mpr ⟨hd_lt gd hj, S.clo j hj hr (pset_iff.mp hp).2⟩
  · obtain ⟨a, b⟩ := pset_iff.mp hp
    exact S.min R h1 (fun j hj ho => (bclo_lanes h).mp h2 j hj ho) p a b
/-! a path that goes a step further with each lane -/
structure Pth (N : FN) (st r tr : List Int) (s : Nat) (path : List Nat) : Prop where
  at_ : ∀ (i l : Nat), path[i]? = some l → l < 2 * N.m ∧ g st (tl N l) = (i : Int) ∧ g st (hd N l) = (i : Int) + 1 ∧ 0 < g r l ∧ 0 ≤ g tr (tl N l) ∧ (lanesOf N (tl N l))[(g tr (tl N l)).toNat]? = some l
  link : ∀ (i l l' : Nat), path[i]? = some l → path[i + 1]? = some l' → tl N l' = hd N l
  first : ∀ l, path[0]? = some l → tl N l = s
def vlast (N : FN) (s : Nat) (path : List Nat) : Nat := match path.getLast? with
  | none => s
  | some l => hd N l
theorem vlast_nil {s : Nat} : vlast N s [] = s := rfl
theorem vlast_snoc {s l : Nat} {path : List Nat} : vlast N s (path ++ [l]) = hd N l := by unfold vlast; rw [List.getLast?_append]; simp
theorem Pth.nil {st r tr : List Int} {s : Nat} : Pth N st r tr s [] := ⟨fun i l h => (by simp at h), fun i l l' h => (by simp at h), fun l h => (by simp at h)⟩
theorem Pth.take {st r r' tr : List Int} {s k : Nat} {path : List Nat} (P : Pth N st r tr s path) (h : ∀ l, l ∈ path.take k → 0 < g r' l) : Pth N st r' tr s (path.take k) := by
  have e : ∀ i l, (path.take k)[i]? = some l → path[i]? = some l := fun i l hl => by
    rw [List.getElem?_take] at hl
    split at hl
    · exact hl
    · cases hl
  refine ⟨fun i l hl => ?_, fun i l l' h1 h2 => P.link i l l' (e _ _ h1) (e _ _ h2), fun l hl => P.first l (e _ _ hl)⟩
  obtain ⟨a1, a2, a3, a4, a5, a6⟩ := P.at_ i l (e _ _ hl)
  exact ⟨a1, a2, a3, h l (List.mem_of_getElem? hl), a5, a6⟩
theorem Pth.vlevel {st r tr : List Int} {s : Nat} {path : List Nat} (P : Pth N st r tr s path) (h0 : g st s = 0) : g st (vlast N s path) = path.length := by
  rcases List.eq_nil_or_concat path with h | ⟨l, x, h⟩
  · subst h; simpa [vlast] using h0
  · rw [List.concat_eq_append] at h
    subst h
    rw [vlast_snoc]
    have := (P.at_ l.length x (by simp)).2.2.1
    rw [this]; simp
theorem Pth.vlt {st r tr : List Int} {s : Nat} {path : List Nat} (gd : N.Good) (P : Pth N st r tr s path) (hs : s < N.n) : vlast N s path < N.n := by
  rcases List.eq_nil_or_concat path with h | ⟨l, x, h⟩
  · subst h; exact hs
  · rw [List.concat_eq_append] at h
    subst h
    rw [vlast_snoc]
    exact hd_lt gd (P.at_ l.length x (by simp)).1
theorem Pth.tails {st r tr : List Int} {s : Nat} {path : List Nat} (P : Pth N st r tr s path) : (path.map (tl N)).Nodup := by
  rw [List.nodup_iff_pairwise_ne, List.pairwise_iff_getElem]
  intro i j hi hj hij e
  rw [List.length_map] at hi hj
  have h1 := (P.at_ i path[i] (by simp)).2.1
  have h2 := (P.at_ j path[j] (by simp)).2.1
  simp only [List.getElem_map] at e
  rw [e] at h1
  omega
theorem Pth.nodup {st r tr : List Int} {s : Nat} {path : List Nat} (P : Pth N st r tr s path) : path.Nodup := by
  have h := P.tails
  rw [List.nodup_iff_pairwise_ne, List.pairwise_map] at h
  exact List.nodup_iff_pairwise_ne.mpr (h.imp fun q e => q (by rw [e]))
theorem Pth.len_le {st r tr : List Int} {s : Nat} {path : List Nat} (gd : N.Good) (P : Pth N st r tr s path) : path.length ≤ N.n := by
  have := nodup_lt N.n _ P.tails (fun x hx => by
    obtain ⟨l, hl, rfl⟩ := List.mem_map.mp hx
    obtain ⟨i, hi⟩ := List.mem_iff_getElem?.mp hl
    exact tl_lt gd (P.at_ i l hi).1)
  simpa using this
theorem Pth.mem {st r tr : List Int} {s l : Nat} {path : List Nat} (P : Pth N st r tr s path) (h : l ∈ path) : l < 2 * N.m ∧ 0 < g r l ∧ g st (tl N l) < path.length ∧ (g tr (tl N l)).toNat < (lanesOf N (tl N l)).length ∧ 0 ≤ g tr (tl N l) := by
  obtain ⟨i, hi⟩ := List.mem_iff_getElem?.mp h
  obtain ⟨a1, a2, a3, a4, a5, a6⟩ := P.at_ i l hi
  have := (List.getElem?_eq_some_iff.mp hi).1
  exact ⟨a1, a4, by omega, (List.getElem?_eq_some_iff.mp a6).1, a5⟩
theorem Pth.pre {st r tr : List Int} {s l : Nat} {path : List Nat} (P : Pth N st r tr s (path ++ [l])) : Pth N st r tr s path := by
  have h := P.take (k := path.length) (r' := r) (fun x hx => (P.mem (List.mem_of_mem_take hx)).2.1)
  rwa [List.take_left'] at h
  rfl
theorem Pth.lastTl {st r tr : List Int} {s l : Nat} {path : List Nat} (P : Pth N st r tr s (path ++ [l])) : tl N l = vlast N s path := by
  rcases List.eq_nil_or_concat path with h | ⟨k, x, h⟩
  · subst h; exact P.first l (by simp)
  · rw [List.concat_eq_append] at h
    subst h
    rw [vlast_snoc]
    exact P.link k.length x l (by simp) (by simp)
theorem Pth.ends {st r tr : List Int} {s : Nat} : ∀ (k : Nat) (path : List Nat), path.length ≤ k → Pth N st r tr s path → ∀ p, ends N path p = ind p s - ind p (vlast N s path) := by
  intro k
  induction k with
  | zero =>
    intro path h P p
    have : path = [] := List.length_eq_zero_iff.mp (by omega)
    subst this
    simp [Pn.ends, vlast]
  | succ k ih =>
    intro path h P p
    rcases List.eq_nil_or_concat path with e | ⟨q, l, e⟩
    · subst e; simp [Pn.ends, vlast]
    · rw [List.concat_eq_append] at e
      subst e
      rw [ends_append, ih q (by simp at h; omega) P.pre p, vlast_snoc]
      simp only [Pn.ends]
      rw [P.lastTl]
      omega
theorem Pth.snoc {st r tr : List Int} {s l : Nat} {path : List Nat} (P : Pth N st r tr s path) (h0 : g st s = 0) (hl : l < 2 * N.m) (ht : tl N l = vlast N s path) (hh : g st (hd N l) = g st (tl N l) + 1) (hr : 0 < g r l) (h5 : 0 ≤ g tr (tl N l)) (h6 : (lanesOf N (tl N l))[(g tr (tl N l)).toNat]? = some l) :
    Pth N st r tr s (path ++ [l]) := by
  have lv := P.vlevel h0
  refine ⟨fun i x hx => ?_, fun i x y h1 h2 => ?_, fun x hx => ?_⟩
  · by_cases q : i < path.length
    · rw [List.getElem?_append_left q] at hx; exact P.at_ i x hx
    · rw [List.getElem?_append_right (by omega)] at hx
      have e : i = path.length := by
        have := (List.getElem?_eq_some_iff.mp hx).1
        simp at this; omega
      subst e
      simp at hx
      subst hx
      exact ⟨hl, by rw [ht, lv], by rw [hh, ht, lv], hr, h5, h6⟩
  · by_cases q : i + 1 < path.length
    · rw [List.getElem?_append_left q] at h2
      rw [List.getElem?_append_left (by omega)] at h1
      exact P.link i x y h1 h2
    · have hi : i + 1 = path.length := by
        have := (List.getElem?_eq_some_iff.mp h2).1
        simp at this; omega
      rw [List.getElem?_append_right (by omega), hi] at h2
      simp at h2
      subst h2
      rw [List.getElem?_append_left (by omega)] at h1
      rw [ht]
      unfold vlast
      have : path.getLast? = some x := by rw [List.getLast?_eq_getElem?, ← h1]; congr 1; omega
      rw [this]
  · cases path with
    | nil => simp at hx; subst hx; rw [ht]; rfl
    | cons a b => simp at hx; exact P.first x (by simp [hx])
/-- other pointers, where the path has no lane out -/
theorem Pth.tried {st r tr tr' : List Int} {s q : Nat} {path : List Nat} (P : Pth N st r tr s path) (hq : g st q = path.length) (h : ∀ p, p ≠ q → g tr' p = g tr p) : Pth N st r tr' s path := by
  refine ⟨fun i l hl => ?_, P.link, P.first⟩
  obtain ⟨a1, a2, a3, a4, a5, a6⟩ := P.at_ i l hl
  have : tl N l ≠ q := fun e => by
    rw [e, hq] at a2
    have := (List.getElem?_eq_some_iff.mp hl).1
    omega
  rw [h _ this]
  exact ⟨a1, a2, a3, a4, a5, a6⟩
end Pn
set_option linter.all false
namespace Pn
variable {N : FN}
def ln (N : FN) (p : Nat) : Int := ((lanesOf N p).length : Int)
def done (N : FN) (t : Nat) (tr : List Int) (p : Nat) : Prop := p ≠ t ∧ g tr p = ln N p
structure Fs (N : FN) (s t : Nat) (st r0 r tr : List Int) (path : List Nat) (b most : Int) : Prop where
  room : RoomOk N r
  dvv : ∀ p, dv N (Fl r) p = dv N (Fl r0) p + b * (ind p s - ind p t)
  trl : tr.length = N.n
  trb : ∀ p, p < N.n → 0 ≤ g tr p ∧ g tr p ≤ ln N p
  pth : Pth N st r tr s path
  b0 : 0 ≤ b
  bm : b ≤ most
  dead : b = 0 → r = r0 ∧ ∀ p, p < N.n → ∀ (i l : Nat), (lanesOf N p)[i]? = some l → (i : Int) < g tr p → 0 < g r0 l → g st (hd N l) = g st (tl N l) + 1 → done N t tr (hd N l)
def mu (N : FN) (tr : List Int) (path : List Nat) (b most : Int) : Nat := ((most - b).toNat + (sm N.n (fun p => ln N p - g tr p)).toNat) * (N.n + 2) + (N.n + 1 - path.length)
theorem fs_init {s t : Nat} {st r0 : List Int} {most : Int} (h : RoomOk N r0) (hm : 0 ≤ most) : Fs N s t st r0 r0 (List.replicate N.n 0) [] 0 most := by
  refine ⟨h, fun p => by simp, by simp, fun p hp => ?_, Pth.nil, Int.le_refl _, hm, fun _ => ⟨rfl, fun p hp i l _ hi => ?_⟩⟩
  · rw [g_replicate _ _ _ hp]; exact ⟨Int.le_refl _, Int.natCast_nonneg _⟩
  · rw [g_replicate _ _ _ hp] at hi; omega
theorem fs_push {s t k : Nat} {st r0 r tr : List Int} {path : List Nat} {b most u : Int} (gd : N.Good) (F : Fs N s t st r0 r tr path b most) (hv : vlast N s path = t) (hu : 0 < u) (hm : u ≤ most - b) (hr : ∀ l, l ∈ path → u ≤ g r l)
    (hk : ∀ l, l ∈ path.take k → 0 < g (pushL u r path) l) :
    Fs N s t st r0 (pushL u r path) tr (path.take k) (b + u) most ∧ mu N tr (path.take k) (b + u) most < mu N tr path b most := by
  obtain ⟨a1, a2, a3⟩ := pushL_ok (N := N) (u := u) (by omega) path r F.room F.pth.nodup (fun l hl => ⟨(F.pth.mem hl).1, hr l hl⟩)
  have b0 := F.b0
  have bm := F.bm
  refine ⟨⟨a1, fun p => ?_, F.trl, F.trb, F.pth.take hk, by omega, by omega, fun h => by omega⟩, ?_⟩
  · rw [a2 p, F.dvv p, F.pth.ends _ path (Nat.le_refl _) p, hv, Int.add_mul]; omega
  · unfold mu
    have hl := F.pth.len_le gd
    generalize (sm N.n (fun p => ln N p - g tr p)).toNat = T
    obtain ⟨x, hx⟩ : ∃ x : Nat, (most - b).toNat = (most - (b + u)).toNat + (x + 1) := ⟨((most - b).toNat - (most - (b + u)).toNat) - 1, by omega⟩
    rw [hx]
    generalize (most - (b + u)).toNat = y
    have e : (y + (x + 1) + T) * (N.n + 2) = (y + T) * (N.n + 2) + x * (N.n + 2) + (N.n + 2) := by
      rw [← Nat.add_mul, ← Nat.succ_mul]; congr 1; omega
    rw [e]
    have : 0 ≤ x * (N.n + 2) := Nat.zero_le _
    omega
structure Adv (N : FN) (st r : List Int) (q : Nat) (tr tr' : List Int) (found : Bool) : Prop where
  len : tr'.length = N.n
  other : ∀ p, p ≠ q → g tr' p = g tr p
  ge : g tr q ≤ g tr' q
  le : g tr' q ≤ ln N q
  skip : ∀ (i l : Nat), (lanesOf N q)[i]? = some l → g tr q ≤ (i : Int) → (i : Int) < g tr' q → ¬ (0 < g r l ∧ g st (hd N l) = g st q + 1)
  yes : found = true → ∃ l, (lanesOf N q)[(g tr' q).toNat]? = some l ∧ 0 < g r l ∧ g st (hd N l) = g st q + 1
  no : found = false → g tr' q = ln N q
theorem sm_mono_tr {tr tr' : List Int} (trb : ∀ p, p < N.n → g tr' p ≤ ln N p) (h : ∀ p, p < N.n → g tr p ≤ g tr' p) : (sm N.n (fun p => ln N p - g tr' p)).toNat ≤ (sm N.n (fun p => ln N p - g tr p)).toNat := by
  have h1 := sm_le (m := N.n) (g := fun p => ln N p - g tr' p) (h := fun p => ln N p - g tr p) (fun p hp => by have := h p hp; omega)
  omega
theorem fs_adv {s t : Nat} {st r0 r tr tr' : List Int} {path : List Nat} {b most : Int} {fd : Bool} (gd : N.Good) (F : Fs N s t st r0 r tr path b most) (hs : s < N.n) (h0 : g st s = 0) (A : Adv N st r (vlast N s path) tr tr' fd) :
    Fs N s t st r0 r tr' path b most ∧ mu N tr' path b most ≤ mu N tr path b most := by
  have hq := F.pth.vlt gd hs
  have hlv := F.pth.vlevel h0
  have ge : ∀ p, g tr p ≤ g tr' p := fun p => by
    by_cases e : p = vlast N s path
    · subst e; exact A.ge
    · rw [A.other p e]; exact Int.le_refl _
  have le : ∀ p, p < N.n → g tr' p ≤ ln N p := fun p hp => by
    by_cases e : p = vlast N s path
    · subst e; exact A.le
    · rw [A.other p e]; exact (F.trb p hp).2
  refine ⟨⟨F.room, F.dvv, A.len, fun p hp => ⟨Int.le_trans (F.trb p hp).1 (ge p), le p hp⟩, F.pth.tried hlv A.other, F.b0, F.bm, fun hb => ?_⟩, ?_⟩
  · obtain ⟨e, d⟩ := F.dead hb
    refine ⟨e, fun p hp i l hl hi hr hs' => ?_⟩
    have up : done N t tr (hd N l) → done N t tr' (hd N l) := fun ⟨x, y⟩ => ⟨x, by
      have h1 := ge (hd N l)
      have h2 := le (hd N l) (hd_lt gd (mem_lanes.mp (List.mem_of_getElem? hl)).1)
      omega⟩
    by_cases q : p = vlast N s path
    · by_cases q2 : (i : Int) < g tr p
      · exact up (d p hp i l hl q2 hr hs')
      · subst q
        have tl' := (mem_lanes.mp (List.mem_of_getElem? hl)).2
        exact absurd ⟨by rw [e]; exact hr, by rw [hs', tl']⟩ (A.skip i l hl (by omega) hi)
    · rw [A.other p q] at hi
      exact up (d p hp i l hl hi hr hs')
  · unfold mu
    have := sm_mono_tr (N := N) (tr := tr) (tr' := tr') le (fun p hp => ge p)
    have := Nat.mul_le_mul_right (N.n + 2) (Nat.add_le_add_left this (most - b).toNat)
    omega
theorem fs_app {s t l : Nat} {st r0 r tr : List Int} {path : List Nat} {b most : Int} (gd : N.Good) (F : Fs N s t st r0 r tr path b most) (hs : s < N.n) (h0 : g st s = 0) (h1 : (lanesOf N (vlast N s path))[(g tr (vlast N s path)).toNat]? = some l) (h2 : 0 < g r l) (h3 : g st (hd N l) = g st (vlast N s path) + 1) :
    Fs N s t st r0 r tr (path ++ [l]) b most ∧ mu N tr (path ++ [l]) b most < mu N tr path b most := by
  obtain ⟨hl, ht⟩ := mem_lanes.mp (List.mem_of_getElem? h1)
  have hq := F.pth.vlt gd hs
  have P := F.pth.snoc h0 hl ht (by rw [ht]; exact h3) h2 (by rw [ht]; exact (F.trb _ hq).1) (by rw [ht]; exact h1)
  refine ⟨⟨F.room, F.dvv, F.trl, F.trb, P, F.b0, F.bm, F.dead⟩, ?_⟩
  have := P.len_le gd
  unfold mu
  rw [List.length_append] at this ⊢
  simp at this ⊢
  omega
theorem fs_pop {s t l : Nat} {st r0 r tr : List Int} {q : List Nat} {b most : Int} (gd : N.Good) (F : Fs N s t st r0 r tr (q ++ [l]) b most) (hs : s < N.n) (h0 : g st s = 0) (hne : hd N l ≠ t) (hno : g tr (hd N l) = ln N (hd N l)) :
    Fs N s t st r0 r (tr.set (vlast N s q) (g tr (vlast N s q) + 1)) q b most ∧ mu N (tr.set (vlast N s q) (g tr (vlast N s q) + 1)) q b most < mu N tr (q ++ [l]) b most := by
  have P := F.pth
  obtain ⟨m1, m2, m3, m4, m5⟩ := P.mem (l := l) (by simp)
  have htl := P.lastTl
  have hv : vlast N s q < N.n := by rw [← htl]; exact tl_lt gd m1
  have e : ∀ p, g (tr.set (vlast N s q) (g tr (vlast N s q) + 1)) p = if p = vlast N s q then g tr (vlast N s q) + 1 else g tr p := fun p => g_set _ (by rw [F.trl]; exact hv) p
  have lt : g tr (vlast N s q) < ln N (vlast N s q) := by rw [← htl]; unfold ln; omega
  have lv : g st (vlast N s q) = q.length := P.pre.vlevel h0
  have a := P.at_ q.length l (by simp)
  have hne2 : hd N l ≠ vlast N s q := fun h => by have h1 := a.2.2.1; rw [h, lv] at h1; omega
  refine ⟨⟨F.room, F.dvv, by rw [List.length_set]; exact F.trl, fun p hp => ?_, P.pre.tried (q := vlast N s q) lv (fun p hp => by rw [e, if_neg hp]), F.b0, F.bm, fun hb => ?_⟩, ?_⟩
  · rw [e]
    have := F.trb p hp
    split
    · rename_i x; subst x; omega
    · exact this
  · obtain ⟨e1, d⟩ := F.dead hb
    refine ⟨e1, fun p hp i k hk hi hr hs' => ?_⟩
    have up : done N t tr (hd N k) → done N t (tr.set (vlast N s q) (g tr (vlast N s q) + 1)) (hd N k) := fun ⟨x, y⟩ => ⟨x, by
      rw [e, if_neg (fun z => by rw [z] at y; omega)]; exact y⟩
    by_cases x : p = vlast N s q
    · subst x
      rw [e, if_pos rfl] at hi
      by_cases z : (i : Int) < g tr (vlast N s q)
      · exact up (d _ hp i k hk z hr hs')
      · have ei : i = (g tr (tl N l)).toNat := by rw [htl]; omega
        rw [ei, ← htl, a.2.2.2.2.2] at hk
        cases hk
        exact up ⟨hne, hno⟩
    · rw [e, if_neg x] at hi
      exact up (d p hp i k hk hi hr hs')
  · unfold mu
    have hlen := P.len_le gd
    have h1 := sm_change (m := N.n) (k := vlast N s q) hv (fun p => ln N p - g tr p) (fun p => ln N p - g (tr.set (vlast N s q) (g tr (vlast N s q) + 1)) p) (fun p _ hp => by show ln N p - g _ p = _; rw [e, if_neg hp])
    have h2 : ln N (vlast N s q) - g (tr.set (vlast N s q) (g tr (vlast N s q) + 1)) (vlast N s q) - (ln N (vlast N s q) - g tr (vlast N s q)) = -1 := by rw [e, if_pos rfl]; omega
    have h3 := sm_nonneg (m := N.n) (g := fun p => ln N p - g (tr.set (vlast N s q) (g tr (vlast N s q) + 1)) p) (fun p hp => by
      show 0 ≤ ln N p - g _ p
      rw [e]; have := (F.trb p hp).2; split
      · rename_i x; subst x; omega
      · omega)
    have h4 : (sm N.n (fun p => ln N p - g tr p)).toNat = (sm N.n (fun p => ln N p - g (tr.set (vlast N s q) (g tr (vlast N s q) + 1)) p)).toNat + 1 := by omega
    rw [h4]
    generalize (sm N.n (fun p => ln N p - g (tr.set (vlast N s q) (g tr (vlast N s q) + 1)) p)).toNat = T
    rw [← Nat.add_assoc, Nat.succ_mul]
    rw [List.length_append] at hlen ⊢
    simp at hlen ⊢
    omega
/-- where the first search from s ends without a unit, t was not to be reached -/
theorem fs_end {s t : Nat} {st r0 tr : List Int} {most : Int} (gd : N.Good) (hs : s < N.n) (hst : s ≠ t) (ht : t < N.n) (S : Steps N r0 0 s st) (h0 : 0 ≤ g st t) (F : Fs N s t st r0 r0 tr [] 0 most) (hno : g tr s = ln N s) : False := by
  obtain ⟨_, d⟩ := F.dead rfl
  have key : ∀ (k : Nat) (p : Nat), p < N.n → g st p = (k : Int) → ¬ done N t tr p → ¬ done N t tr s := by
    intro k
    induction k with
    | zero =>
      intro p hp hk hnd
      by_cases e : p = s
      · subst e; exact hnd
      · obtain ⟨j, h1, h2, h3, h4, h5⟩ := S.par p hp (by omega) e
        omega
    | succ k ih =>
      intro p hp hk hnd
      by_cases e : p = s
      · subst e; exact hnd
      · obtain ⟨j, h1, h2, h3, h4, h5⟩ := S.par p hp (by omega) e
        refine ih (tl N j) (tl_lt gd h1) (by omega) fun ⟨x, y⟩ => hnd ?_
        obtain ⟨i, hi⟩ := List.mem_iff_getElem?.mp (mem_lanes.mpr ⟨h1, rfl⟩ : j ∈ lanesOf N (tl N j))
        have hlt := (List.getElem?_eq_some_iff.mp hi).1
        have := d (tl N j) (tl_lt gd h1) i j hi (by rw [y]; unfold ln; omega) (by unfold opn at h2; simpa using h2) (by rw [h3, h5])
        rw [h3] at this
        exact this
  exact key (g st t).toNat t ht (by omega) (fun ⟨x, _⟩ => x rfl) ⟨hst, hno⟩
/-! fill -/
structure Fill (N : FN) (s t : Nat) (r : List Int) (b most : Int) : Prop where
  room : RoomOk N r
  dvv : ∀ p, dv N (Fl r) p = b * (ind p s - ind p t)
  b0 : 0 ≤ b
  bm : b ≤ most
theorem Fill.flow {s t : Nat} {r : List Int} {b most : Int} (F : Fill N s t r b most) : IsFlow N s t (Fl r) b := ⟨F.room.feas, fun p _ => by
  rw [F.dvv p]; unfold sup ind
  split <;> split <;> simp⟩
theorem fill_init (gd : N.Good) {s t : Nat} {most : Int} (hm : 0 ≤ most) : Fill N s t (room0 N N.m) 0 most := ⟨room0_ok gd, fun p => by rw [room0_dv]; simp, Int.le_refl _, hm⟩
theorem fill_next {s t : Nat} {st r r' tr : List Int} {path : List Nat} {b most c : Int} (F : Fill N s t r b most) (G : Fs N s t st r r' tr path c (most - b)) : Fill N s t r' (b + c) most :=
  ⟨G.room, fun p => by rw [G.dvv p, F.dvv p, Int.add_mul], by have := F.b0; have := G.b0; omega, by have := G.bm; omega⟩
theorem fill_most {s t : Nat} {r : List Int} {b most : Int} (F : Fill N s t r b most) (h : ¬ b < most) : Full N s t (Fl r) b most := ⟨F.bm, .inl (by have := F.bm; omega)⟩
theorem fill_cut {s t : Nat} {r st : List Int} {b most : Int} (gd : N.Good) (F : Fill N s t r b most) (S : Steps N r 0 s st) (h : g st t < 0) : Full N s t (Fl r) b most := by
  have L := S.least gd F.room
  refine ⟨F.bm, .inr ⟨pset N.n st, L.src, ?_, cut_of_clo F.room.feas L.clo⟩⟩
  cases e : pset N.n st t with
  | false => rfl
  | true => have := (pset_iff.mp e).2; omega
end Pn
set_option linter.all false
namespace Pn
variable {N : FN}
def rc (N : FN) (h : List Int) (j : Nat) : Int := pr N j + g h (tl N j) - g h (hd N j)
theorem rc_ot (h : List Int) (j : Nat) : rc N h (ot j) = -rc N h j := by unfold rc; rw [pr_ot, tl_ot, hd_ot]; omega
structure Car (N : FN) (s t : Nat) (units : Int) (r h x : List Int) : Prop where
  room : RoomOk N r
  hl : h.length = N.n
  xl : x.length = N.n
  ex : ∀ p, p < N.n → g x p = units * (ind p s - ind p t) - dv N (Fl r) p
def Red (N : FN) (P : Int) (r h : List Int) : Prop := ∀ j, j < 2 * N.m → P ≤ g r j → 0 ≤ rc N h j
/-- u units moved from a to b -/
def mv (x : List Int) (a b : Nat) (u : Int) : List Int := (x.set a (g x a - u)).set b (g (x.set a (g x a - u)) b + u)
theorem mv_len (x : List Int) (a b : Nat) (u : Int) : (mv x a b u).length = x.length := by unfold mv; simp
theorem g_mv {x : List Int} {a b : Nat} {u : Int} (ha : a < x.length) (hb : b < x.length) (p : Nat) : g (mv x a b u) p = g x p - u * (ind p a - ind p b) := by
  unfold mv ind
  rw [g_set _ (by simpa using hb), g_set _ ha, g_set _ ha]
  by_cases h1 : p = b
  · subst h1
    rw [if_pos rfl, if_pos rfl]
    by_cases h2 : p = a
    · subst h2; simp
    · rw [if_neg h2, if_neg h2]; simp
  · rw [if_neg h1, if_neg h1]
    by_cases h2 : p = a
    · subst h2; simp
    · rw [if_neg h2, if_neg h2]; simp
theorem gain_step {s t j : Nat} {units P : Int} {r h x : List Int} (gd : N.Good) (C : Car N s t units r h x) (hP : 0 < P) (hj : j < 2 * N.m) (hr : P ≤ g r j) (hc : rc N h j < 0) :
    Car N s t units (pushL (g r j) r [j]) h (mv x (tl N j) (hd N j) (g r j)) ∧ ∀ k, k < 2 * N.m → (k = j ∨ (P ≤ g r k → 0 ≤ rc N h k)) → P ≤ g (pushL (g r j) r [j]) k → 0 ≤ rc N h k := by
  obtain ⟨a1, a2, a3⟩ := pushL_ok (N := N) (u := g r j) (by omega) [j] r C.room (by simp) (fun k hk => by simp at hk; subst hk; exact ⟨hj, Int.le_refl _⟩)
  have htl := tl_lt gd hj
  have hhd := hd_lt gd hj
  refine ⟨⟨a1, C.hl, by rw [mv_len]; exact C.xl, fun p hp => ?_⟩, fun k hk hv hq => ?_⟩
  · rw [g_mv (by rw [C.xl]; exact htl) (by rw [C.xl]; exact hhd), C.ex p hp, a2 p]
    simp only [ends]
    rw [Int.add_zero]
    omega
  · rw [a3 k hk] at hq
    by_cases e1 : k = j
    · subst e1
      have : ¬ ot k ∈ [k] := by simp; exact ot_ne k
      rw [if_pos (by simp), if_neg this] at hq
      omega
    · rw [if_neg (by simp; exact e1)] at hq
      by_cases e2 : ot k = j
      · have : rc N h k = -rc N h j := by rw [← e2, rc_ot]; omega
        omega
      · rw [if_neg (by simp; exact e2)] at hq
        rcases hv with hv | hv
        · exact absurd hv e1
        · exact hv (by omega)
/-! the search -/
structure Dj (N : FN) (P : Int) (r h x dl en : List Int) (S : List Nat) (W : List Int) (D : Int) (cur : List Nat) : Prop where
  dlen : dl.length = N.n
  elen : en.length = N.n
  nd : S.Nodup
  slt : ∀ v, v ∈ S → v < N.n ∧ 0 ≤ g dl v ∧ g dl v ≤ D
  D0 : 0 ≤ D
  src : ∀ v, v < N.n → P ≤ g x v → g dl v = 0 ∧ g en v = -1
  unl : ∀ v, v < N.n → g dl v < 0 → g dl v = -1
  lab : ∀ v, v < N.n → 0 ≤ g dl v → v ∉ S → P ≤ g x v ∨ ∃ j, j < 2 * N.m ∧ g en v = (j : Int) ∧ hd N j = v ∧ P ≤ g r j ∧ tl N j ∈ S ∧ g dl v = g dl (tl N j) + rc N h j
  ord : ∀ A v B, S = A ++ v :: B → (P ≤ g x v) ∨ ∃ j, j < 2 * N.m ∧ g en v = (j : Int) ∧ hd N j = v ∧ P ≤ g r j ∧ tl N j ∈ A ∧ g dl v = g dl (tl N j) + rc N h j
  ws : W.Pairwise (· < ·)
  wk : ∀ k, k ∈ W → ∃ (d : Int) (v : Nat), v < N.n ∧ k = -(d * 256 + v) ∧ D ≤ d ∧ 0 ≤ g dl v ∧ g dl v ≤ d ∧ (v ∈ S → g dl v < d)
  wl : ∀ v, v < N.n → 0 ≤ g dl v → v ∉ S → -(g dl v * 256 + v) ∈ W
  scan : ∀ v, v ∈ S → v ∉ cur → ∀ j, j ∈ lanesOf N v → P ≤ g r j → 0 ≤ g dl (hd N j) ∧ g dl (hd N j) ≤ g dl v + rc N h j
  nolack : ∀ v, v ∈ S → v ∉ cur → -P < g x v
variable {P D : Int} {r h x dl en : List Int} {S : List Nat} {W : List Int}
theorem Dj.last (J : Dj N P r h x dl en S W D []) (hn : N.n ≤ 256) {W' : List Int} {k : Int} (hW : W = W' ++ [k]) :
    ∃ (d : Int) (v : Nat), v < N.n ∧ k = -(d * 256 + v) ∧ -k % 256 = (v : Int) ∧ -k / 256 = d ∧ D ≤ d ∧ 0 ≤ g dl v ∧ g dl v ≤ d ∧ (v ∈ S → g dl v < d) := by
  obtain ⟨d, v, h1, h2, h3, h4, h5, h6⟩ := J.wk k (by rw [hW]; simp)
  exact ⟨d, v, h1, h2, by omega, by omega, h3, h4, h5, h6⟩
theorem Dj.stale (J : Dj N P r h x dl en S W D []) (hn : N.n ≤ 256) {W' : List Int} {k : Int} (hW : W = W' ++ [k]) {d : Int} {v : Nat} (hv : v < N.n) (hk : k = -(d * 256 + v)) (hne : d ≠ g dl v) : Dj N P r h x dl en S W' D [] := by
  refine ⟨J.dlen, J.elen, J.nd, J.slt, J.D0, J.src, J.unl, J.lab, J.ord, ?_, fun k' hk' => J.wk k' (by rw [hW]; exact List.mem_append_left _ hk'), fun u hu h0 hs => ?_, J.scan, J.nolack⟩
  · have := J.ws; rw [hW, List.pairwise_append] at this; exact this.1
  · have := J.wl u hu h0 hs
    rw [hW, List.mem_append] at this
    rcases this with q | q
    · exact q
    · simp at q
      have e1 : d = g dl u := by omega
      have e2 : v = u := by omega
      subst e2; exact absurd e1 hne
theorem snoc_split {S A B : List Nat} {v u : Nat} (e : S ++ [v] = A ++ u :: B) : (B = [] ∧ u = v ∧ A = S) ∨ ∃ B', B = B' ++ [v] ∧ S = A ++ u :: B' := by
  rcases List.eq_nil_or_concat B with q | ⟨B', w, q⟩
  · left
    subst q
    have := List.append_inj' e rfl
    exact ⟨rfl, by simpa using this.2.symm, this.1.symm⟩
  · right
    rw [List.concat_eq_append] at q
    subst q
    have e' : S ++ [v] = (A ++ u :: B') ++ [w] := by rw [e]; simp
    have := List.append_inj' e' rfl
    refine ⟨B', ?_, this.1⟩
    have h2 := this.2
    simp at h2
    rw [h2]
theorem Dj.settle (J : Dj N P r h x dl en S W D []) (hn : N.n ≤ 256) {W' : List Int} {k : Int} (hW : W = W' ++ [k]) {d : Int} {v : Nat} (hv : v < N.n) (hk : k = -(d * 256 + v)) (hD : D ≤ d) (he : d = g dl v) (hs : v ∉ S) : Dj N P r h x dl en (S ++ [v]) W' d [v] := by
  have D0 := J.D0
  have pw := J.ws
  rw [hW, List.pairwise_append] at pw
  refine ⟨J.dlen, J.elen, ?_, fun u hu => ?_, by omega, J.src, J.unl, fun u hu h0 hn' => ?_, fun A u B e => ?_, pw.1, fun k' hk' => ?_, fun u hu h0 hn' => ?_, fun u hu hc => ?_, fun u hu hc => ?_⟩
  · refine List.nodup_append.mpr ⟨J.nd, by simp, fun a ha b hb q => ?_⟩
    simp at hb; subst hb; subst q; exact hs ha
  · rcases List.mem_append.mp hu with q | q
    · obtain ⟨a, b, c⟩ := J.slt u q; exact ⟨a, b, by omega⟩
    · simp at q; subst q; exact ⟨hv, by omega, by omega⟩
  · have n1 : u ∉ S := fun q => hn' (List.mem_append_left _ q)
    rcases J.lab u hu h0 n1 with q | ⟨j, a1, a2, a3, a4, a5, a6⟩
    · exact .inl q
    · exact .inr ⟨j, a1, a2, a3, a4, List.mem_append_left _ a5, a6⟩
  · rcases snoc_split e with ⟨_, e2, e3⟩ | ⟨B', _, e3⟩
    · subst e2 e3
      exact J.lab u hv (by omega) hs
    · exact J.ord A u B' e3
  · obtain ⟨d', v', h1, h2, h3, h4, h5, h6⟩ := J.wk k' (by rw [hW]; exact List.mem_append_left _ hk')
    have lt := pw.2.2 k' hk' k (by simp)
    refine ⟨d', v', h1, h2, by omega, h4, h5, fun q => ?_⟩
    rcases List.mem_append.mp q with q | q
    · exact h6 q
    · simp at q; subst q
      omega
  · have n1 : u ∉ S := fun q => hn' (List.mem_append_left _ q)
    have n2 : u ≠ v := fun q => hn' (List.mem_append_right _ (by simp [q]))
    have := J.wl u hu h0 n1
    rw [hW, List.mem_append] at this
    rcases this with q | q
    · exact q
    · simp at q; exfalso; omega
  · rcases List.mem_append.mp hu with q | q
    · exact J.scan u q (by simp)
    · exact absurd q hc
  · rcases List.mem_append.mp hu with q | q
    · exact J.nolack u q (by simp)
    · exact absurd q hc
/-- a nearer way to the head of a lane is found -/
theorem Dj.better {v j : Nat} (gd : N.Good) (J : Dj N P r h x dl en S W D [v]) (hn : N.n ≤ 256) (hP : 0 < P) (hvS : v ∈ S) (hvD : g dl v = D) (hj : j ∈ lanesOf N v) (hr : P ≤ g r j) (rd : Red N P r h) (hb : g dl (hd N j) < 0 ∨ g dl v + rc N h j < g dl (hd N j))
    {A B : List Int} (hW : W = A ++ B) (hA : ∀ a, a ∈ A → a < -((g dl v + rc N h j) * 256 + (hd N j : Int))) (hB : ∀ b, b ∈ B → -((g dl v + rc N h j) * 256 + (hd N j : Int)) < b) :
    Dj N P r h x (dl.set (hd N j) (g dl v + rc N h j)) (en.set (hd N j) j) S (A ++ -((g dl v + rc N h j) * 256 + (hd N j : Int)) :: B) D [v] := by
  obtain ⟨hj1, hj2⟩ := mem_lanes.mp hj
  have hw := hd_lt gd hj1
  have rc0 := rd j hj1 hr
  have D0 := J.D0
  have wS : hd N j ∉ S := fun q => by
    obtain ⟨_, b, c⟩ := J.slt _ q
    omega
  have e : ∀ p, g (dl.set (hd N j) (g dl v + rc N h j)) p = if p = hd N j then g dl v + rc N h j else g dl p := fun p => g_set _ (by rw [J.dlen]; exact hw) p
  have e' : ∀ p, g (en.set (hd N j) j) p = if p = hd N j then (j : Int) else g en p := fun p => g_set _ (by rw [J.elen]; exact hw) p
  have inS : ∀ p, p ∈ S → g (dl.set (hd N j) (g dl v + rc N h j)) p = g dl p := fun p hp => by
    have q : p ≠ hd N j := fun q => wS (q ▸ hp)
    rw [e, if_neg q]
  refine ⟨by rw [List.length_set]; exact J.dlen, by rw [List.length_set]; exact J.elen, J.nd, fun u hu => by rw [inS u hu]; exact J.slt u hu, D0, fun u hu hx => ?_, fun u hu h0 => ?_, fun u hu h0 hs => ?_, fun A' u B' eS => ?_, ?_, fun k hk => ?_, fun u hu h0 hs => ?_, fun u hu hc i hi hri => ?_, J.nolack⟩
  · obtain ⟨a, b⟩ := J.src u hu hx
    have : u ≠ hd N j := fun q => by subst q; omega
    rw [e, e', if_neg this, if_neg this]; exact ⟨a, b⟩
  · rw [e] at h0 ⊢
    split at h0
    · omega
    · rename_i q; rw [if_neg q]; exact J.unl u hu h0
  · by_cases q : u = hd N j
    · right
      refine ⟨j, hj1, by rw [e', if_pos q], q.symm, hr, by rw [hj2]; exact hvS, ?_⟩
      rw [e, if_pos q, hj2, inS v hvS]
    · rw [e, if_neg q] at h0
      rcases J.lab u hu h0 hs with z | ⟨i, a1, a2, a3, a4, a5, a6⟩
      · exact .inl z
      · exact .inr ⟨i, a1, by rw [e', if_neg q]; exact a2, a3, a4, a5, by rw [e, if_neg q, inS _ a5]; exact a6⟩
  · have uS : u ∈ S := by rw [eS]; simp
    have q : u ≠ hd N j := fun q => wS (q ▸ uS)
    rcases J.ord A' u B' eS with z | ⟨i, a1, a2, a3, a4, a5, a6⟩
    · exact .inl z
    · exact .inr ⟨i, a1, by rw [e', if_neg q]; exact a2, a3, a4, a5, by rw [e, if_neg q, inS _ (by rw [eS]; exact List.mem_append_left _ a5)]; exact a6⟩
  · have pw := J.ws
    rw [hW, List.pairwise_append] at pw
    refine List.pairwise_append.mpr ⟨pw.1, List.pairwise_cons.mpr ⟨hB, pw.2.1⟩, fun a ha b hb' => ?_⟩
    rcases List.mem_cons.mp hb' with q | q
    · rw [q]; exact hA a ha
    · exact pw.2.2 a ha b q
  · have old : k ∈ W → ∃ (d : Int) (v_1 : Nat), v_1 < N.n ∧ k = -(d * 256 + v_1) ∧ D ≤ d ∧ 0 ≤ g (dl.set (hd N j) (g dl v + rc N h j)) v_1 ∧ g (dl.set (hd N j) (g dl v + rc N h j)) v_1 ≤ d ∧ (v_1 ∈ S → g (dl.set (hd N j) (g dl v + rc N h j)) v_1 < d) := fun hk => by
      obtain ⟨d, u, h1, h2, h3, h4, h5, h6⟩ := J.wk k hk
      refine ⟨d, u, h1, h2, h3, ?_⟩
      rw [e]
      by_cases q : u = hd N j
      · rw [if_pos q]; subst q
        exact ⟨by omega, by omega, fun z => absurd z wS⟩
      · rw [if_neg q]; exact ⟨h4, h5, h6⟩
    rcases List.mem_append.mp hk with q | q
    · exact old (by rw [hW]; exact List.mem_append_left _ q)
    · rcases List.mem_cons.mp q with q | q
      · exact ⟨g dl v + rc N h j, hd N j, hw, q, by omega, by rw [e, if_pos rfl]; omega, by rw [e, if_pos rfl]; exact Int.le_refl _, fun z => absurd z wS⟩
      · exact old (by rw [hW]; exact List.mem_append_right _ q)
  · by_cases q : u = hd N j
    · rw [e, if_pos q, q]; simp
    · rw [e, if_neg q] at h0 ⊢
      have := J.wl u hu h0 hs
      rw [hW] at this
      rcases List.mem_append.mp this with z | z
      · exact List.mem_append_left _ z
      · exact List.mem_append_right _ (List.mem_cons_of_mem _ z)
  · obtain ⟨a, b⟩ := J.scan u hu hc i hi hri
    rw [inS u hu, e]
    split
    · rename_i q; rw [q] at a b
      exact ⟨by omega, by omega⟩
    · exact ⟨a, b⟩
/-- the place's lanes are all seen -/
theorem Dj.seen {v : Nat} (J : Dj N P r h x dl en S W D [v]) (hs : ∀ j, j ∈ lanesOf N v → P ≤ g r j → 0 ≤ g dl (hd N j) ∧ g dl (hd N j) ≤ g dl v + rc N h j) (hl : -P < g x v) : Dj N P r h x dl en S W D [] :=
  ⟨J.dlen, J.elen, J.nd, J.slt, J.D0, J.src, J.unl, J.lab, J.ord, J.ws, J.wk, J.wl, fun u hu _ j hj hr => by
    by_cases q : u = v
    · subst q; exact hs j hj hr
    · exact J.scan u hu (by simp [q]) j hj hr, fun u hu _ => by
    by_cases q : u = v
    · subst q; exact hl
    · exact J.nolack u hu (by simp [q])⟩
/-! the path back -/
inductive BP (N : FN) (en : List Int) : Nat → List Nat → Nat → Prop
  | nil (v : Nat) : g en v = -1 → BP N en v [] v
  | cons {j v : Nat} {path : List Nat} {src : Nat} : j < 2 * N.m → hd N j = v → g en v = (j : Int) → BP N en (tl N j) path src → BP N en v (j :: path) src
structure Back (N : FN) (P : Int) (r h x dl en : List Int) (A : List Nat) (v : Nat) (path : List Nat) (src : Nat) : Prop where
  bp : BP N en v path src
  lanes : ∀ j, j ∈ path → j < 2 * N.m ∧ P ≤ g r j ∧ g dl (hd N j) = g dl (tl N j) + rc N h j ∧ (hd N j = v ∨ hd N j ∈ A) ∧ tl N j ∈ A
  heads : (path.map (hd N)).Nodup
  hsrc : P ≤ g x src
  ends : ∀ p, ends N path p = ind p src - ind p v
  last : path ≠ [] → ∃ l, path.getLast? = some l ∧ tl N l = src
theorem back_ok {cur : List Nat} (J : Dj N P r h x dl en S W D cur) : ∀ (k : Nat) (A : List Nat) (v : Nat) (B : List Nat), A.length ≤ k → S = A ++ v :: B → ∃ path src, Back N P r h x dl en A v path src := by
  intro k
  induction k with
  | zero =>
    intro A v B hk e
    have hv : v < N.n := (J.slt v (by rw [e]; simp)).1
    rcases J.ord A v B e with q | ⟨j, a1, a2, a3, a4, a5, a6⟩
    · exact ⟨[], v, .nil v (J.src v hv q).2, fun j hj => (by cases hj), by simp, q, fun p => by simp [Pn.ends], fun z => absurd rfl z⟩
    · have : A = [] := List.length_eq_zero_iff.mp (by omega)
      subst this; cases a5
  | succ k ih =>
    intro A v B hk e
    have hv : v < N.n := (J.slt v (by rw [e]; simp)).1
    rcases J.ord A v B e with q | ⟨j, a1, a2, a3, a4, a5, a6⟩
    · exact ⟨[], v, .nil v (J.src v hv q).2, fun j hj => (by cases hj), by simp, q, fun p => by simp [Pn.ends], fun z => absurd rfl z⟩
    · obtain ⟨A1, A2, eA⟩ := List.append_of_mem a5
      subst a3
      obtain ⟨path, src, K⟩ := ih A1 (tl N j) (A2 ++ hd N j :: B) (by rw [eA] at hk; simp at hk; omega) (by rw [e, eA]; simp)
      have nd := J.nd
      rw [e] at nd
      have hnA : hd N j ∉ A := fun q => (List.nodup_append.mp nd).2.2 _ q _ (List.mem_cons_self ..) rfl
      have sub : ∀ q, q ∈ A1 → q ∈ A := fun q hq => by rw [eA]; exact List.mem_append_left _ hq
      refine ⟨j :: path, src, .cons a1 rfl a2 K.bp, fun i hi => ?_, ?_, K.hsrc, fun p => ?_, fun _ => ?_⟩
      · rcases List.mem_cons.mp hi with q | q
        · subst q; exact ⟨a1, a4, a6, .inl rfl, a5⟩
        · obtain ⟨b1, b2, b3, b4, b5⟩ := K.lanes i q
          refine ⟨b1, b2, b3, .inr ?_, sub _ b5⟩
          rcases b4 with b4 | b4
          · rw [b4]; exact a5
          · exact sub _ b4
      · rw [List.map_cons, List.nodup_cons]
        refine ⟨fun q => ?_, K.heads⟩
        obtain ⟨i, hi, ei⟩ := List.mem_map.mp q
        obtain ⟨_, _, _, b4, _⟩ := K.lanes i hi
        rcases b4 with b4 | b4
        · rw [← ei, b4] at hnA; exact hnA a5
        · rw [← ei] at hnA; exact hnA (sub _ b4)
      · simp only [Pn.ends]; rw [K.ends p]; omega
      · by_cases q : path = []
        · subst q
          have bp := K.bp
          cases bp
          exact ⟨j, rfl, rfl⟩
        · obtain ⟨l, h1, h2⟩ := K.last q
          refine ⟨l, ?_, h2⟩
          rw [List.getLast?_cons, h1]; rfl
end Pn
set_option linter.all false
namespace Pn
variable {N : FN} {P D : Int} {r h x dl en : List Int} {S : List Nat} {W : List Int}
/-! the search's start -/
structure Src (N : FN) (P : Int) (x dl : List Int) (W : List Int) (k : Nat) : Prop where
  len : dl.length = N.n
  val : ∀ v, v < N.n → g dl v = if k ≤ v ∧ P ≤ g x v then 0 else -1
  ws : W.Pairwise (· < ·)
  wk : ∀ w, w ∈ W → ∃ v : Nat, k ≤ v ∧ v < N.n ∧ P ≤ g x v ∧ w = -(v : Int)
  wl : ∀ v : Nat, k ≤ v → v < N.n → P ≤ g x v → -(v : Int) ∈ W
  wlen : W.length + k ≤ N.n
theorem src_init : Src N P x (List.replicate N.n (-1)) [] N.n :=
  ⟨by simp, fun v hv => by rw [g_replicate _ _ _ hv, if_neg (by omega)], List.Pairwise.nil, fun w hw => (by cases hw), fun v h1 h2 => by omega, by simp⟩
theorem src_yes {k : Nat} (A : Src N P x dl W (k + 1)) (hx : P ≤ g x k) : Src N P x (dl.set k 0) (W ++ [-(k : Int)]) k := by
  have wlen := A.wlen
  refine ⟨by rw [List.length_set]; exact A.len, fun v hv => ?_, ?_, fun w hw => ?_, fun v h1 h2 h3 => ?_, by simp; omega⟩
  · rw [g_set _ (by rw [A.len]; omega)]
    by_cases q : v = k
    · subst q; rw [if_pos rfl, if_pos ⟨Nat.le_refl _, hx⟩]
    · rw [if_neg q, A.val v hv]
      by_cases q2 : k ≤ v ∧ P ≤ g x v
      · rw [if_pos q2, if_pos ⟨by omega, q2.2⟩]
      · rw [if_neg q2, if_neg (fun z => q2 ⟨by omega, z.2⟩)]
  · refine List.pairwise_append.mpr ⟨A.ws, by simp, fun a ha b hb => ?_⟩
    simp at hb; subst hb
    obtain ⟨v, h1, h2, h3, h4⟩ := A.wk a ha
    omega
  · rcases List.mem_append.mp hw with q | q
    · obtain ⟨v, h1, h2, h3, h4⟩ := A.wk w q
      exact ⟨v, by omega, h2, h3, h4⟩
    · simp at q; exact ⟨k, Nat.le_refl _, by omega, hx, q⟩
  · by_cases q : v = k
    · subst q; simp
    · exact List.mem_append_left _ (A.wl v (by omega) h2 h3)
theorem src_no {k : Nat} (A : Src N P x dl W (k + 1)) (hx : ¬ P ≤ g x k) : Src N P x dl W k := by
  have wlen := A.wlen
  refine ⟨A.len, fun v hv => ?_, A.ws, fun w hw => ?_, fun v h1 h2 h3 => ?_, by omega⟩
  · rw [A.val v hv]
    by_cases q : v = k
    · subst q; rw [if_neg (by omega), if_neg (fun z => hx z.2)]
    · by_cases q2 : k ≤ v ∧ P ≤ g x v
      · rw [if_pos q2, if_pos ⟨by omega, q2.2⟩]
      · rw [if_neg q2, if_neg (fun z => q2 ⟨by omega, z.2⟩)]
  · obtain ⟨v, h1, h2, h3, h4⟩ := A.wk w hw
    exact ⟨v, by omega, h2, h3, h4⟩
  · by_cases q : v = k
    · subst q; exact absurd h3 hx
    · exact A.wl v (by omega) h2 h3
theorem dj_init (A : Src N P x dl W 0) : Dj N P r h x dl (List.replicate N.n (-1)) [] W 0 [] := by
  refine ⟨A.len, by simp, by simp, fun v hv => (by cases hv), Int.le_refl _, fun v hv hx => ⟨by rw [A.val v hv, if_pos ⟨Nat.zero_le _, hx⟩], g_replicate _ _ _ hv⟩, fun v hv h0 => ?_, fun v hv h0 _ => ?_, fun A v B e => ?_, A.ws, fun k hk => ?_, fun v hv h0 _ => ?_, fun v hv => (by cases hv), fun v hv => (by cases hv)⟩
  · rw [A.val v hv] at h0 ⊢; split at h0
    · omega
    · rename_i q; rw [if_neg q]
  · rw [A.val v hv] at h0; split at h0
    · rename_i q; exact .inl q.2
    · omega
  · simp at e
  · obtain ⟨v, h1, h2, h3, h4⟩ := A.wk k hk
    refine ⟨0, v, h2, by omega, Int.le_refl _, ?_⟩
    rw [A.val v h2, if_pos ⟨h1, h3⟩]
    exact ⟨Int.le_refl _, Int.le_refl _, fun z => (by cases z)⟩
  · rw [A.val v hv] at h0 ⊢; split at h0
    · rename_i q; rw [if_pos q]; have := A.wl v q.1 hv q.2; simpa using this
    · omega
/-! how long a search can be -/
theorem len_filter (n : Nat) (q : Nat → Bool) : (((List.range n).filter q).length : Int) = sm n (fun j => if q j = true then 1 else 0) := by
  induction n with
  | zero => rfl
  | succ n ih =>
    rw [List.range_succ, List.filter_append, List.length_append, Int.natCast_add, ih]
    simp only [sm]
    congr 1
    cases e : q n <;> simp [e]
theorem lanes_sum (gd : N.Good) : sm N.n (ln N) = 2 * N.m := by
  have e : sm N.n (ln N) = sm N.n (fun p => sm (2 * N.m) (fun j => if tl N j = p then 1 else 0)) := sm_congr fun p hp => by
    unfold ln lanesOf
    rw [len_filter]
    exact sm_congr fun j hj => by simp
  rw [e, ← sm_swap]
  have e2 : sm (2 * N.m) (fun j => sm N.n (fun p => if tl N j = p then (1 : Int) else 0)) = sm (2 * N.m) (fun _ => 1) := sm_congr fun j hj => sm_single (tl_lt gd hj) (fun _ => 1)
  rw [e2]
  have : ∀ k : Nat, sm k (fun _ => 1) = k := fun k => by
    induction k with
    | zero => rfl
    | succ k ih => simp only [sm, ih]; omega
  rw [this]; omega
def left (N : FN) (S : List Nat) : Int := sm N.n (fun p => if p ∈ S then 0 else ln N p)
theorem left_nn (S : List Nat) : 0 ≤ left N S := sm_nonneg fun p hp => by
  have : 0 ≤ ln N p := Int.natCast_nonneg _
  show 0 ≤ if p ∈ S then 0 else ln N p
  split <;> omega
theorem left_nil (gd : N.Good) : left N [] = 2 * N.m := by
  unfold left; rw [← lanes_sum gd]; exact sm_congr fun p hp => by simp
theorem left_snoc {v : Nat} (hv : v < N.n) (hs : v ∉ S) : left N (S ++ [v]) = left N S - ln N v := by
  unfold left
  rw [sm_change hv (fun p => if p ∈ S then 0 else ln N p) (fun p => if p ∈ S ++ [v] then 0 else ln N p)]
  · simp only [if_neg hs]
    rw [if_pos (by simp)]; omega
  · intro p _ hne
    show (if p ∈ S ++ [v] then 0 else ln N p) = if p ∈ S then 0 else ln N p
    by_cases q : p ∈ S
    · rw [if_pos q, if_pos (List.mem_append_left _ q)]
    · rw [if_neg q, if_neg (fun z => by rcases List.mem_append.mp z with z | z; exact q z; simp at z; exact hne z)]
/-! one portion carried -/
def posx (N : FN) (x : List Int) : Int := sm N.n (fun p => max (g x p) 0)
theorem posx_nn : 0 ≤ posx N x := sm_nonneg fun p _ => by show 0 ≤ max (g x p) 0; omega
theorem ind_ne {p q : Nat} (h : p ≠ q) : ind p q = 0 := by unfold ind; rw [if_neg h]
theorem ind_eq (p : Nat) : ind p p = 1 := by unfold ind; rw [if_pos rfl]
theorem Back.ne {A : List Nat} {v src : Nat} {path : List Nat} (K : Back N P r h x dl en A v path src) (hP : 0 < P) (hx : g x v ≤ -P) : path ≠ [] := fun e => by
  subst e
  have bp := K.bp
  have := K.hsrc
  cases bp
  omega
theorem carry_ok {s t goal src : Nat} {units u : Int} {S0 : List Nat} {path : List Nat} {h' : List Int} (gd : N.Good) (hn : N.n ≤ 256) (C : Car N s t units r h x) (rd : Red N P r h) (hP : 0 < P) (J : Dj N P r h x dl en (S0 ++ [goal]) W D [goal]) (hD : g dl goal = D) (hlack : g x goal ≤ -P)
    (K : Back N P r h x dl en S0 goal path src) (u0 : 0 < u) (u1 : u ≤ g x src) (u2 : u ≤ -g x goal) (u3 : ∀ j, j ∈ path → u ≤ g r j)
    (hl' : h'.length = N.n) (hh' : ∀ p, p < N.n → g h' p = g h p + (if p ∈ S0 ++ [goal] then g dl p - g dl goal else 0)) :
    Car N s t units (pushL u r path) h' (mv x src goal u) ∧ Red N P (pushL u r path) h' ∧ posx N (mv x src goal u) < posx N x := by
  have hgoal : goal < N.n := (J.slt goal (by simp)).1
  have nd : path.Nodup := by
    have q := K.heads
    rw [List.nodup_iff_pairwise_ne, List.pairwise_map] at q
    exact List.nodup_iff_pairwise_ne.mpr (q.imp fun a b => a (by rw [b]))
  obtain ⟨a1, a2, a3⟩ := pushL_ok (N := N) (u := u) (by omega) path r C.room nd (fun j hj => ⟨(K.lanes j hj).1, u3 j hj⟩)
  have hsrc : src < N.n := by
    obtain ⟨l, h1, h2⟩ := K.last (K.ne hP hlack)
    rw [← h2]
    exact tl_lt gd (K.lanes l (List.mem_of_getLast? h1)).1
  have hne : src ≠ goal := fun e => by have := K.hsrc; rw [e] at this; omega
  have slt := J.slt
  have rd0 : ∀ j, j < 2 * N.m → P ≤ g r j → 0 ≤ rc N h' j := fun j hj hr => by
    have h0 := rd j hj hr
    have t1 := tl_lt gd hj
    have t2 := hd_lt gd hj
    have e : rc N h' j = rc N h j + (if tl N j ∈ S0 ++ [goal] then g dl (tl N j) - g dl goal else 0) - (if hd N j ∈ S0 ++ [goal] then g dl (hd N j) - g dl goal else 0) := by
      unfold rc; rw [hh' _ t1, hh' _ t2]; omega
    rw [e]
    by_cases q2 : hd N j ∈ S0 ++ [goal]
    · rw [if_pos q2]
      have := slt _ q2
      by_cases q1 : tl N j ∈ S0 ++ [goal]
      · rw [if_pos q1]
        by_cases q3 : tl N j = goal
        · rw [q3]; omega
        · have := J.scan _ q1 (by simp [q3]) j (mem_lanes.mpr ⟨hj, rfl⟩) hr
          omega
      · rw [if_neg q1]; omega
    · rw [if_neg q2]
      by_cases q1 : tl N j ∈ S0 ++ [goal]
      · rw [if_pos q1]
        by_cases q3 : tl N j = goal
        · rw [q3]; omega
        · obtain ⟨b1, b2⟩ := J.scan _ q1 (by simp [q3]) j (mem_lanes.mpr ⟨hj, rfl⟩) hr
          obtain ⟨d, v, c1, c2, c3, _⟩ := J.wk _ (J.wl _ t2 b1 q2)
          omega
      · rw [if_neg q1]; omega
  have tight : ∀ j, j ∈ path → rc N h' j = 0 := fun j hj => by
    obtain ⟨b1, b2, b3, b4, b5⟩ := K.lanes j hj
    have t1 := tl_lt gd b1
    have t2 := hd_lt gd b1
    have q1 : tl N j ∈ S0 ++ [goal] := List.mem_append_left _ b5
    have q2 : hd N j ∈ S0 ++ [goal] := by
      rcases b4 with b4 | b4
      · rw [b4]; simp
      · exact List.mem_append_left _ b4
    unfold rc at b3 ⊢
    rw [hh' _ t1, hh' _ t2, if_pos q1, if_pos q2]; omega
  refine ⟨⟨a1, hl', by rw [mv_len]; exact C.xl, fun p hp => ?_⟩, fun k hk hr => ?_, ?_⟩
  · rw [g_mv (by rw [C.xl]; exact hsrc) (by rw [C.xl]; exact hgoal), C.ex p hp, a2 p, K.ends p]; omega
  · rw [a3 k hk] at hr
    by_cases q : ot k ∈ path
    · have := tight _ q
      rw [rc_ot] at this
      omega
    · rw [if_neg q] at hr
      exact rd0 k hk (by split at hr <;> omega)
  · unfold posx
    have e : ∀ p, g (mv x src goal u) p = g x p - u * (ind p src - ind p goal) := g_mv (by rw [C.xl]; exact hsrc) (by rw [C.xl]; exact hgoal)
    rw [sm_change hsrc (fun p => max (g x p) 0) (fun p => max (g (mv x src goal u) p) 0)]
    · show sm N.n (fun p => max (g x p) 0) + (max (g (mv x src goal u) src) 0 - max (g x src) 0) < _
      rw [e, ind_eq, ind_ne hne]; omega
    · intro p _ hp
      show max (g (mv x src goal u) p) 0 = max (g x p) 0
      rw [e, ind_ne hp]
      by_cases q : p = goal
      · subst q; rw [ind_eq]; omega
      · rw [ind_ne q]; simp
/-! the end: no place has too many, if as much can go -/
theorem carry_end {s t : Nat} {units : Int} {G : Nat → Int} (gd : N.Good) (C : Car N s t units r h x) (fG : IsFlow N s t G units) (hs : s < N.n) (ht : t < N.n) (J : Dj N 1 r h x dl en S [] D []) : ∀ p, p < N.n → g x p = 0 := by
  let R : Nat → Bool := fun p => decide (p ∈ S)
  have hR : ∀ p, R p = true ↔ p ∈ S := fun p => by simp [R]
  have allS : ∀ v, v < N.n → 0 ≤ g dl v → v ∈ S := fun v hv h0 => by
    by_cases q : v ∈ S
    · exact q
    · have := J.wl v hv h0 q; cases this
  have clo : Clo N (Fl r) R := (clo_lanes C.room).mpr fun j hj hr h1 => by
    have := J.scan (tl N j) ((hR _).mp h1) (by simp) j (mem_lanes.mpr ⟨hj, rfl⟩) (by omega)
    exact (hR _).mpr (allS _ (hd_lt gd hj) this.1)
  have le := cut_net gd C.room.feas fG.feas (cut_of_clo C.room.feas clo)
  rw [net_eq gd, net_eq gd] at le
  have exG : ∀ p, p < N.n → g x p = dv N G p - dv N (Fl r) p := fun p hp => by
    rw [C.ex p hp, fG.div p hp]; unfold sup ind
    split <;> split <;> simp
  have sumS : sm N.n (fun p => (if R p = true then 1 else 0) * g x p) ≤ 0 := by
    have : sm N.n (fun p => (if R p = true then 1 else 0) * g x p) = sm N.n (fun p => (if R p = true then 1 else 0) * dv N G p) - sm N.n (fun p => (if R p = true then 1 else 0) * dv N (Fl r) p) := by
      rw [← sm_sub]
      exact sm_congr fun p hp => by rw [exG p hp, Int.mul_sub]
    omega
  have inS : ∀ p, p < N.n → p ∈ S → 0 ≤ g x p := fun p hp hq => by have := J.nolack p hq (by simp); omega
  have outS : ∀ p, p < N.n → p ∉ S → g x p ≤ 0 := fun p hp hq => by
    by_cases q : 1 ≤ g x p
    · exact absurd (allS p hp (by rw [(J.src p hp q).1]; omega)) hq
    · omega
  have z1 : ∀ p, p < N.n → (if R p = true then 1 else 0) * g x p = 0 := sm_all_zero (fun p hp => by
    by_cases q : p ∈ S
    · rw [if_pos ((hR p).mpr q)]; have := inS p hp q; omega
    · rw [if_neg (fun z => q ((hR p).mp z))]; omega) sumS
  have tot : sm N.n (fun p => g x p) = 0 := by
    have e1 := wsum (N := N) (F := G) gd (fun _ => 1)
    have e2 := wsum (N := N) (F := Fl r) gd (fun _ => 1)
    have e3 : ∀ F : Nat → Int, sm N.m (fun i => F i * (1 - 1)) = 0 := fun F => by
      rw [sm_congr (h := fun _ => 0) (fun i _ => by simp), sm_zero]
    rw [e3] at e1 e2
    rw [sm_congr (h := fun p => 1 * dv N G p - 1 * dv N (Fl r) p) (fun p hp => by rw [exG p hp]; omega), sm_sub, e1, e2]; rfl
  have np : ∀ p, p < N.n → g x p ≤ 0 := fun p hp => by
    by_cases q : p ∈ S
    · have := z1 p hp; rw [if_pos ((hR p).mpr q)] at this; omega
    · exact outS p hp q
  have z2 := sm_all_zero (m := N.n) (g := fun p => - g x p) (fun p hp => by have := np p hp; show 0 ≤ -g x p; omega) (by
    have : sm N.n (fun p => -g x p) = sm N.n (fun p => 0 - g x p) := sm_congr fun p _ => by omega
    rw [this, sm_sub, sm_zero, tot]; omega)
  intro p hp
  have := z2 p hp
  have : -g x p = 0 := this
  omega
theorem car_flow {s t : Nat} {units : Int} (C : Car N s t units r h x) (hz : ∀ p, p < N.n → g x p = 0) : IsFlow N s t (Fl r) units := ⟨C.room.feas, fun p hp => by
  have h1 := C.ex p hp
  rw [hz p hp] at h1
  have : dv N (Fl r) p = units * (ind p s - ind p t) := by omega
  rw [this]; unfold sup ind
  split <;> split <;> simp⟩
theorem car_pot {s t : Nat} {units : Int} (C : Car N s t units r h x) (rd : Red N 1 r h) : Pot N (g h) (Fl r) := pot_lanes C.room fun j hj hr => rd j hj (by omega)
theorem car_init {s t : Nat} {units : Int} (gd : N.Good) (hs : s < N.n) (ht : t < N.n) : Car N s t units (room0 N N.m) (List.replicate N.n 0) (((List.replicate N.n 0).set s (g (List.replicate N.n 0) s + units)).set t (g ((List.replicate N.n 0).set s (g (List.replicate N.n 0) s + units)) t - units)) := by
  refine ⟨room0_ok gd, by simp, by simp, fun p hp => ?_⟩
  rw [g_set _ (by simpa using ht), g_set _ (by simpa using hs), g_set _ (by simpa using hs), g_replicate _ _ _ hs, g_replicate _ _ _ ht, g_replicate _ _ _ hp, room0_dv]
  unfold ind
  by_cases h1 : p = t
  · subst h1; rw [if_pos rfl, if_pos rfl]
    by_cases h2 : p = s
    · subst h2; simp
    · rw [if_neg h2, if_neg h2]; simp
  · rw [if_neg h1, if_neg h1]
    by_cases h2 : p = s
    · subst h2; simp
    · rw [if_neg h2, if_neg h2]; simp
end Pn
set_option linter.all false
namespace Pn
open Sw14
theorem full_move {N : FN} {s t : Nat} {F G : Nat → Int} {v most : Int} (gd : N.Good) (hs : s < N.n) (ht : t < N.n) (fF : IsFlow N s t F v) (fG : IsFlow N s t G v) (h : Full N s t F v most) : Full N s t G v most := by
  obtain ⟨h1, h2 | ⟨R, a, b, c⟩⟩ := h
  · exact ⟨h1, .inl h2⟩
  · exact ⟨h1, .inr ⟨R, a, b, cut_move gd hs ht fF fG a b c⟩⟩
theorem full_eq {N : FN} {s t : Nat} {F G : Nat → Int} {v w most : Int} (gd : N.Good) (hs : s < N.n) (ht : t < N.n) (fF : IsFlow N s t F v) (fG : IsFlow N s t G w) (h : Full N s t F v most) (h' : Full N s t G w most) : v = w := by
  obtain ⟨h1, h2 | ⟨R, a, b, c⟩⟩ := h
  · obtain ⟨h3, h4 | ⟨R', a', b', c'⟩⟩ := h'
    · omega
    · exact val_eq (R := fun _ => false) gd hs ht fF fG h1 h3 (.inl h2) (.inr ⟨a', b', c'⟩)
  · obtain ⟨h3, h4 | ⟨R', a', b', c'⟩⟩ := h'
    · exact val_eq (R' := fun _ => false) gd hs ht fF fG h1 h3 (.inr ⟨a, b, c⟩) (.inl h4)
    · exact val_eq gd hs ht fF fG h1 h3 (.inr ⟨a, b, c⟩) (.inr ⟨a', b', c'⟩)
theorem send_val {n : Net} {s t most : Nat} {F : Nat → Int} {b : Int} (r : Right n) (hs : s < n.places) (ht : t < n.places) (hst : s ≠ t) (fF : IsFlow (fn n) s t F b) (h : Full (fn n) s t F b most) : ((sentOf n s t most).2 : Int) = b := by
  obtain ⟨S, U⟩ := sentOf_ok r hs hst most
  exact full_eq (good_of r) hs ht S.flow fF U h
theorem send_cost {n : Net} {s t most : Nat} {F : Nat → Int} {pi : Nat → Int} (r : Right n) (hs : s < n.places) (hst : s ≠ t) (fF : IsFlow (fn n) s t F ((sentOf n s t most).2 : Int)) (p : Pot (fn n) pi F) : (costOf n (sentOf n s t most).1 : Int) = cost (fn n) F := by
  obtain ⟨S, U⟩ := sentOf_ok r hs hst most
  obtain ⟨pi', p'⟩ := S.pot
  rw [costOf_eq S.len]
  exact cost_eq (good_of r) S.flow fF p' p
/-! ways -/
def pos (p : Pipe) : Bool := decide (0 < p.holds)
def single (n : Net) : Net := ⟨n.places, (n.pipes.filter pos).map fun p => ⟨p.a, p.b, 1, 0⟩⟩
def cnt (P : List Pipe) (i : Nat) : Nat := ((P.take i).filter pos).length
theorem sum_pos (phi : Nat → Int) : ∀ (k : Nat) (P : List Pipe), k ≤ P.length → sm k (fun i => if pos (P.getD i ⟨0, 0, 0, 0⟩) = true then phi (cnt P i) else 0) = sm (cnt P k) phi := by
  intro k
  induction k with
  | zero => intro P _; simp [cnt, sm]
  | succ k ih =>
    intro P hk
    have hlt : k < P.length := by omega
    simp only [sm]
    rw [ih P (by omega)]
    have e : P.take (k + 1) = P.take k ++ [P[k]] := List.take_succ_eq_append_getElem hlt
    have eg : P.getD k ⟨0, 0, 0, 0⟩ = P[k] := by rw [List.getD_eq_getElem?_getD, List.getElem?_eq_getElem hlt]; rfl
    rw [eg]
    have ec : cnt P (k + 1) = cnt P k + (if pos P[k] = true then 1 else 0) := by
      unfold cnt
      rw [e, List.filter_append, List.length_append]
      congr 1
      cases q : pos P[k] <;> simp [q]
    rw [ec]
    cases q : pos P[k] with
    | true => rw [if_pos rfl, if_pos rfl]; rfl
    | false => simp
theorem filter_at {P : List Pipe} {i : Nat} (h : i < P.length) (hp : pos P[i] = true) : (P.filter pos)[cnt P i]? = some P[i] := by
  have e : P = P.take i ++ P[i] :: P.drop (i + 1) := by rw [← List.drop_eq_getElem_cons h, List.take_append_drop]
  have e2 : P.filter pos = (P.take i).filter pos ++ P[i] :: (P.drop (i + 1)).filter pos := by
    conv => lhs; rw [e]
    rw [List.filter_append, List.filter_cons, if_pos hp]
  rw [e2]
  unfold cnt
  rw [List.getElem?_append_right (Nat.le_refl _)]
  simp
theorem single_at {n : Net} {i : Nat} (h : i < n.pipes.length) (hp : pos (pp n i) = true) : cnt n.pipes i < (single n).pipes.length ∧ pp (single n) (cnt n.pipes i) = ⟨(pp n i).a, (pp n i).b, 1, 0⟩ := by
  have eg : pp n i = n.pipes[i] := by unfold pp; rw [List.getD_eq_getElem?_getD, List.getElem?_eq_getElem h]; rfl
  rw [eg] at hp ⊢
  have := filter_at h hp
  have e3 : (single n).pipes[cnt n.pipes i]? = some ⟨n.pipes[i].a, n.pipes[i].b, 1, 0⟩ := by
    unfold single
    rw [List.getElem?_map, this]; rfl
  exact ⟨(List.getElem?_eq_some_iff.mp e3).1, pp_of e3⟩
theorem thin_at {n : Net} {i : Nat} (h : i < n.pipes.length) : pp (thin n) i = { pp n i with holds := min 1 (pp n i).holds } := by
  unfold pp thin
  rw [List.getD_eq_getElem?_getD, List.getElem?_map, List.getD_eq_getElem?_getD, List.getElem?_eq_getElem h]
  rfl
theorem thin_right {n : Net} (r : Right n) : Right (thin n) := fun x hx => by
  obtain ⟨y, hy, rfl⟩ := List.mem_map.mp hx
  exact r y hy
theorem single_right {n : Net} (r : Right n) : Right (single n) := fun x hx => by
  obtain ⟨y, hy, rfl⟩ := List.mem_map.mp hx
  exact r y (List.mem_filter.mp hy).1
theorem thin_len (n : Net) : (thin n).pipes.length = n.pipes.length := by unfold thin; simp
theorem single_len (n : Net) : (single n).pipes.length = cnt n.pipes n.pipes.length := by unfold single cnt; simp
def ext (n : Net) (G : Nat → Int) (i : Nat) : Int := if pos (pp n i) = true then G (cnt n.pipes i) else 0
theorem ext_dv {n : Net} (G : Nat → Int) (p : Nat) : dv (fn (thin n)) (ext n G) p = dv (fn (single n)) G p := by
  unfold dv
  show sm (thin n).pipes.length _ = sm (single n).pipes.length _
  rw [thin_len, single_len, ← sum_pos _ n.pipes.length n.pipes (Nat.le_refl _)]
  refine sm_congr fun i hi => ?_
  show ((if (pp (thin n) i).a = p then ext n G i else 0) - (if (pp (thin n) i).b = p then ext n G i else 0)) = if pos (pp n i) = true then _ else 0
  rw [thin_at hi]
  unfold ext
  cases q : pos (pp n i) with
  | true =>
    rw [if_pos rfl, if_pos rfl]
    have e := (single_at hi q).2
    show _ = ((if (pp (single n) (cnt n.pipes i)).a = p then _ else _) - (if (pp (single n) (cnt n.pipes i)).b = p then _ else _))
    rw [e]
  | false => simp
theorem holds_thin {n : Net} {i : Nat} (hi : i < n.pipes.length) : (fn (thin n)).h i = if pos (pp n i) = true then 1 else 0 := by
  show ((pp (thin n) i).holds : Int) = _
  rw [thin_at hi]
  show ((min 1 (pp n i).holds : Nat) : Int) = _
  unfold pos
  by_cases q : 0 < (pp n i).holds
  · simp [q]; omega
  · simp [q]; omega
theorem ways_eq {n : Net} {s t : Nat} {G : Nat → Int} {v : Int} (r : Right n) (hs : s < n.places) (ht : t < n.places) (hst : s ≠ t) (hlen : n.pipes.length < 2 ^ 64) (fG : IsFlow (fn (single n)) s t G v) (h : Full (fn (single n)) s t G v ((single n).pipes.length : Int)) :
    ((sentOf (thin n) s t (2 ^ 64)).2 : Int) = v := by
  obtain ⟨S, U⟩ := sentOf_ok (thin_right r) (show s < (thin n).places from hs) hst (2 ^ 64)
  have gd := good_of (thin_right r)
  have fE : IsFlow (fn (thin n)) s t (ext n G) v := ⟨fun i hi => by
    have hi' : i < n.pipes.length := by rw [← thin_len]; exact hi
    rw [holds_thin hi']
    unfold ext
    cases q : pos (pp n i) with
    | true =>
      rw [if_pos rfl, if_pos rfl]
      obtain ⟨a, b⟩ := single_at hi' q
      have := fG.feas _ a
      have e : (fn (single n)).h (cnt n.pipes i) = 1 := by show ((pp (single n) (cnt n.pipes i)).holds : Int) = 1; rw [b]; rfl
      rw [e] at this; exact this
    | false => simp, fun p hp => by rw [ext_dv]; exact fG.div p hp⟩
  have cE : ∀ R, Cut (fn (single n)) R G → Cut (fn (thin n)) R (ext n G) := fun R c i hi => by
    have hi' : i < n.pipes.length := by rw [← thin_len]; exact hi
    rw [holds_thin hi']
    unfold ext
    have ea : (fn (thin n)).a i = (pp n i).a := by show (pp (thin n) i).a = _; rw [thin_at hi']
    have eb : (fn (thin n)).b i = (pp n i).b := by show (pp (thin n) i).b = _; rw [thin_at hi']
    rw [ea, eb]
    cases q : pos (pp n i) with
    | true =>
      obtain ⟨a, b⟩ := single_at hi' q
      have := c _ a
      have e1 : (fn (single n)).h (cnt n.pipes i) = 1 := by show ((pp (single n) (cnt n.pipes i)).holds : Int) = 1; rw [b]; rfl
      have e2 : (fn (single n)).a (cnt n.pipes i) = (pp n i).a := by show (pp (single n) (cnt n.pipes i)).a = _; rw [b]
      have e3 : (fn (single n)).b (cnt n.pipes i) = (pp n i).b := by show (pp (single n) (cnt n.pipes i)).b = _; rw [b]
      rw [e1, e2, e3] at this
      rw [if_pos rfl, if_pos rfl]; exact this
    | false => simp
  have hle : ∀ F w, IsFlow (fn (thin n)) s t F w → w ≤ ((single n).pipes.length : Int) := fun F w fF => by
    have e := across (R := fun p => decide (p = s)) gd fF hs ht (by simp) (by simp; exact fun q => hst q.symm)
    rw [← e]
    unfold net
    have h1 : sm (fn (thin n)).m (fun i => (if decide ((fn (thin n)).a i = s) = true then F i else 0) - (if decide ((fn (thin n)).b i = s) = true then F i else 0)) ≤ sm (fn (thin n)).m (fun i => (fn (thin n)).h i) := sm_le fun i hi => by
      have := fF.feas i hi
      show (if decide ((fn (thin n)).a i = s) = true then F i else 0) - (if decide ((fn (thin n)).b i = s) = true then F i else 0) ≤ (fn (thin n)).h i
      split <;> split <;> omega
    refine Int.le_trans h1 ?_
    show sm (thin n).pipes.length _ ≤ _
    rw [thin_len, single_len]
    rw [sm_congr (h := fun i => if pos (n.pipes.getD i ⟨0, 0, 0, 0⟩) = true then (fun _ => 1) (cnt n.pipes i) else 0) (fun i hi => holds_thin hi), sum_pos (fun _ => 1) n.pipes.length n.pipes (Nat.le_refl _)]
    have : ∀ k : Nat, sm k (fun _ => 1) = k := fun k => by
      induction k with
      | zero => rfl
      | succ k ih => simp only [sm, ih]; omega
    rw [this]; exact Int.le_refl _
  have hc : cnt n.pipes n.pipes.length ≤ n.pipes.length := by
    unfold cnt; rw [List.take_length]; exact List.length_filter_le _ _
  have h1 := hle _ _ S.flow
  have h2 := hle _ _ fE
  have hx : (single n).pipes.length < 2 ^ 64 := by rw [single_len]; omega
  obtain ⟨u1, u2 | ⟨R, a, b, c⟩⟩ := U
  · exfalso; rw [u2] at h1; omega
  · have h3 := val_le gd hs ht S.flow fE a b c
    obtain ⟨w1, w2 | ⟨R', a', b', c'⟩⟩ := h
    · omega
    · have h4 := val_le gd hs ht fE S.flow a' b' (cE R' c')
      omega
/-! the wall as it is told -/
theorem contains_filter {n p : Nat} (R : Nat → Bool) (h : p < n) : ((List.range n).filter R).contains p = R p := by
  cases e : R p with
  | true => simp; exact ⟨h, e⟩
  | false =>
    have : ¬ p ∈ (List.range n).filter R := fun q => by rw [(List.mem_filter.mp q).2] at e; cases e
    simpa using this
theorem wall_list (n : Nat) (R : Nat → Bool) : ((List.range n).map fun p => (((List.range n).filter R).contains p).toNat) = (List.range n).map fun p => (R p).toNat :=
  List.map_congr_left fun p hp => by rw [contains_filter R (List.mem_range.mp hp)]
theorem wall_count (n : Nat) (R : Nat → Bool) : ((List.range n).filter R).length = ((List.range n).map fun p => (R p).toNat).sum := by
  induction n with
  | zero => rfl
  | succ n ih =>
    rw [List.range_succ, List.filter_append, List.length_append, List.map_append, List.sum_append, ih]
    congr 1
    cases e : R n <;> simp [e]
end Pn
set_option Elab.async false
set_option linter.all false
set_option maxRecDepth 100000
namespace Px
open PySem PySem.Spec PyProof.Rows L2
/-! exceptions: an object in flight, its traceback -/
/-- e is in flight (its note says fl); g: the heap ahead, where neither e nor its traceback stood; H tracks neither -/
def Fl (g : Heap) (H : Hp) (e : Addr) (cls fl : Value) (h : Heap) : Prop :=
  ∃ oe vs a0 T oT ts, h.get? e = some oe ∧ (oe.cls = cls ∧ vs[0]? = some a0) ∧ oe.data = .fields vs ∧ vs[1]? = some (.ref T) ∧ T ≠ e ∧ h.get? T = some oT ∧ oT.data = .fields ts ∧ ts[3]? = some fl ∧
    g.get? e = none ∧ g.get? T = none ∧ H e = none ∧ H T = none
theorem obj_ex {P : Program} {w : World} {H : Hp} {h : Heap} {a : Addr} {o : HO} (x : ObjOk P w H h a o) : ∃ ob, h.get? a = some ob := by
  cases o with
  | lst xs => obtain ⟨_, _, _, _, e⟩ := x; exact ⟨_, e⟩
  | tup xs => obtain ⟨_, _, _, _, e, _⟩ := x; exact ⟨_, e⟩
  | dK kvs => obtain ⟨_, _, _, _, o, _, _, e, _⟩ := x; exact ⟨_, e⟩
  | dT kvs => obtain ⟨_, _, _, _, o, _, _, e, _⟩ := x; exact ⟨_, e⟩
  | set S n => obtain ⟨o, _, _, _, e, _⟩ := x; exact ⟨_, e⟩
  | ins C dx fs => obtain ⟨_, _, _, e, _⟩ := x; exact ⟨_, e⟩
  | own y => exact x
  | xd fs => obtain ⟨_, ⟨_, _, _, e, _⟩, _⟩ := x; exact ⟨_, e⟩
  | rng lo hi => obtain ⟨_, _, _, e⟩ := x; exact ⟨_, e⟩
  | frz ob u => obtain ⟨e, _⟩ := x; exact ⟨_, e⟩
  | tbl ps => exact ⟨_, (show h.get? a = some _ from x)⟩
  | met f y => exact ⟨_, (show h.get? a = some _ from x)⟩
  | ext φ => obtain ⟨_, e, _⟩ := x; exact e
theorem fly_core {P : Program} {w : World} {fs : List Addr} {H0 H : Hp} {g h h' base : Heap} {l : List Env} {e T : Addr} {cls a0 fl : Value} (u : Un fs [] H0 H g h) (hok : HOk P w H h) (ff : h.FunFrames base l) (fr0 : ∀ b ∈ frs l, H b = none)
    (sub : ∀ b ∈ frs l, b ∈ fs ∨ g.get? b = none) (ge : g.get? e = none) (gT : g.get? T = none) (He : H e = none) (HT : H T = none)
    (x1 : (PySem.W.hideAll h (frs l ++ [e, T])).StaysIn h') (x2 : h'.FunFrames (PySem.W.hideAll h (frs l ++ [e, T])) l) (x3 : h'.TracedAtW (PySem.W.hideAll h (frs l ++ [e, T])) e cls a0 fl) (x4 : h.UpToSlots h') :
    Un fs [] H0 H g h' ∧ HOk P w H h' ∧ Fl g H e cls fl h' := by
  have inB : ∀ b o, h.get? b = some o → b ∉ frs l → b ≠ e → b ≠ T → h'.get? b = some o := fun b o q n1 n2 n3 => x1 b o (PySem.W.hideAll_get _ q (by simp [n1, n2, n3]))
  have ne : ∀ b o, g.get? b = some o → b ≠ e ∧ b ≠ T := fun b o q => ⟨fun z => (by rw [z, ge] at q; cases q), fun z => (by rw [z, gT] at q; cases q)⟩
  have fr : ∀ b o, h.get? b = some o → b ∈ frs l → ∃ sl, h'.get? b = some { o with slots := sl } := fun b o q m => by
    obtain ⟨_, o', ho', hd⟩ := ff.mem m
    rw [q] at ho'; cases ho'
    exact x4 b o q hd
  refine ⟨⟨fun b o q n hb _ => ?_, fun b o q n hb _ => ?_, fun b o q n hx => u.free b o q n hx, fun b o q hx => ?_, u.tups, u.frzs, u.tbls⟩, fun a o q => ?_, ?_⟩
  · refine inB b o (u.keep b o q n hb (by simp)) (fun m => ?_) (ne b o q).1 (ne b o q).2
    rcases sub b m with z | z
    · exact hb z
    · rw [z] at q; cases q
  · obtain ⟨sl, q1⟩ := u.slot b o q n hb (by simp)
    by_cases m : b ∈ frs l
    · obtain ⟨sl', q2⟩ := fr b _ q1 m
      exact ⟨sl', q2⟩
    · exact ⟨sl, inB b _ q1 m (ne b o q).1 (ne b o q).2⟩
  · obtain ⟨o1, q1⟩ := u.there b o q hx
    by_cases m : b ∈ frs l
    · obtain ⟨sl', q2⟩ := fr b _ q1 m
      exact ⟨_, q2⟩
    · exact ⟨_, inB b _ q1 m (ne b o q).1 (ne b o q).2⟩
  · have tr : ∀ b ob, H b = some ob → b ∉ frs l ∧ b ≠ e ∧ b ≠ T := fun b ob z => ⟨fun m => (by rw [fr0 b m] at z; cases z), fun m => (by rw [m, He] at z; cases z), fun m => (by rw [m, HT] at z; cases z)⟩
    refine (hok a o q).stay (fun b ob hb qb => ?_) (fun _ z => z) fun _ _ z => z
    rcases hb with z | z
    · subst z
      obtain ⟨n1, n2, n3⟩ := tr b o q
      exact inB b ob qb n1 n2 n3
    · obtain ⟨n1, n2, n3⟩ := tr b _ z
      exact inB b ob qb n1 n2 n3
  · obtain ⟨oe, vs, T', oT, ts, he, hc, hd, h1, hB, hTe, hT', hdT, h3⟩ := x3
    have nf : T' ∉ frs l := fun m => by
      obtain ⟨_, o', ho', hd'⟩ := x2.mem m
      rw [hT'] at ho'; cases ho'
      exact hd' ts hdT
    have none_of : ∀ o, h.get? T' = some o → T' = T := fun o q => by
      refine Classical.byContradiction fun n3 => ?_
      have z := PySem.W.hideAll_get (frs l ++ [e, T]) q (by simp [nf, hTe, n3])
      rw [hB] at z; cases z
    refine ⟨oe, vs, a0, T', oT, ts, he, hc, hd, h1, hTe, hT', hdT, h3, ge, ?_, He, ?_⟩
    · cases q : g.get? T' with
      | none => rfl
      | some o =>
        obtain ⟨o1, q1⟩ := u.there T' o q (by simp)
        have z := none_of o1 q1
        rw [z, gT] at q; cases q
    · cases q : H T' with
      | none => rfl
      | some o =>
        obtain ⟨ob, q1⟩ := obj_ex (hok T' o q)
        have z := none_of ob q1
        rw [z, HT] at q; cases q
/-- behind a call that raised -/
def CXE (P : Program) (w : World) : CXT := fun outer H s E e s' => ∃ ea cls H', e = .ref ea ∧ s'.os = s.os ∧ AllBare s'.gens ∧ Un (frs outer) [] H H' s.heap s'.heap ∧ HOk P w H' s'.heap ∧ Fl s.heap H' ea cls .none s'.heap ∧ E cls none H'
section
variable {P : Program} {w : World} {K : PySem.W.Frag} {mg : Str → Option Value} {base : Heap} {N : List Str} {qual : Str} {scope : Scope} {f : Addr} {cd : Value} {A : Around} {outer : List Env} {s : Shared} {H : Hp} {E : XK}
theorem Fl.traced {g : Heap} {H : Hp} {e : Addr} {cls fl : Value} {h : Heap} {l : List Addr} (x : Fl g H e cls fl h) : ∃ T a0, h.TracedAtW (PySem.W.hideAll h (l ++ [e, T])) e cls a0 fl ∧ g.get? e = none ∧ g.get? T = none ∧ H e = none ∧ H T = none := by
  obtain ⟨oe, vs, a0, T, oT, ts, he, hc, hd, h1, hTe, hT, hdT, h3, r⟩ := x
  exact ⟨T, a0, ⟨oe, vs, T, oT, ts, he, hc, hd, h1, PySem.W.hideAll_none _ (by simp), hTe, hT, hdT, h3⟩, r⟩
theorem mem_frs {l : List Env} {x : List Addr} : ∀ env ∈ l, ∀ a, env.frame = some a → a ∈ frs l ++ x := fun env he a ha => List.mem_append_left _ (List.mem_filterMap.mpr ⟨env, he, ha⟩)
/-- the exception of a callee leaves this def -/
theorem passE {E' : XK} (hE : ∀ c d H, E' c d H → E c d H) : Passes (CXE P w) (cxOf (CXE P w) P w K mg base N qual scope f cd A outer s H E) E' := by
  intro pins σ H1 s1 e s2 I hx
  obtain ⟨ea, cls, H', rfl, os, bare, un, hok, fl, q⟩ := hx
  have I2 := I.call' (ch := []) os un hok bare (fun b z => absurd z (by simp))
  obtain ⟨T, a0, tr, _, _, He, HT⟩ := fl.traced (l := frs (envOfC qual scope s.heap.objs.size f cd :: outer))
  have gn : ∀ b, s1.heap.get? b = none → s.heap.get? b = none := fun b z => by
    cases q : s.heap.get? b with
    | none => rfl
    | some o =>
      obtain ⟨o', q'⟩ := I.base.there b o q (by show b ∉ ([] : List Addr); simp)
      rw [z] at q'; cases q'
  obtain ⟨_, _, _, T1, _, _, _, _, _, _, _, _, _, _, ge1, gT1, _, HT1⟩ := id fl
  have fl2 : Fl s.heap H' ea cls .none s2.heap := by
    obtain ⟨oe, vs, a0, T, oT, ts, he, hc, hd, h1, hTe, hT, hdT, h3, ge, gT, r⟩ := fl
    exact ⟨oe, vs, a0, T, oT, ts, he, hc, hd, h1, hTe, hT, hdT, h3, gn _ ge, gn _ gT, r⟩
  obtain ⟨T, a0, tr, ge, gT, He, HT⟩ := fl2.traced (l := frs (envOfC qual scope s.heap.objs.size f cd :: outer))
  have st : s2.heap.FunFrames base (envOfC qual scope s.heap.objs.size f cd :: outer) := I2.stack
  show wpAny _ _ (leaving _ _) _ _ s2
  refine wpAny_leaving_nextW (base := PySem.W.hideAll s2.heap (frs (envOfC qual scope s.heap.objs.size f cd :: outer) ++ [ea, T])) I2.ok.frames (PySem.W.funFrames_hide st mem_frs) rfl tr (fun b o z => PySem.W.of_hideAll _ z) (PySem.W.hideAll_none _ (by simp)) fun h' L => ?_
  obtain ⟨x1, x2, x3, x4⟩ := L
  obtain ⟨u', hok', fl'⟩ := fly_core (g := s.heap) (H0 := H) (fs := frs outer) I2.base I2.hok st I2.stkFree (fun b hb => (List.mem_cons.mp (I2.stkSub b hb)).elim (fun z => .inr (by rw [z]; exact Heap.get?_none_of_le I2.ok.above)) .inl) ge gT He HT x1 x2 x3 x4
  exact ⟨ea, cls, H', rfl, I2.os, I2.bare, u', hok', fl', hE _ _ _ q⟩
/-- raise X() of an own class -/
def tRaise (E : XK) (C : Addr) : TS := fun _ _ H => E (.ref C) none H
theorem ps_raise {x : Str} {C : Addr} {np cpos pos : Pos} {bm : List Value} {B newId initId : String} (hh : A.handled = none) (hg : (envOfC qual scope s.heap.objs.size f cd).kindOf x = some .globalImplicit) (hm : mg x = some (.ref C)) (q : PySem.W.excIn K C bm newId = true)
    (FB : ExcBaseFacts B newId initId bm) (hd : (x == ("__debug__" : Str)) = false := by decide) :
    PS (cxOf (CXE P w) P w K mg base N qual scope f cd A outer s H E) (.Raise (some (.Call (.Name x np) [] [] cpos)) none pos) (tRaise E C) := by
  intro pins s1 σ H1 D I hq
  have KX : K.In s1.heap := I.kIn
  have Ow : ∃ bm' N nm q bs hdct sn sub ab col dd k0 k1 k2 k3 k5 mN, s1.heap.get? C = some (excClassObj nm q C N bs bm' hdct sn sub ab col dd k0 k1 k2 k3 k5 newId) ∧ s1.heap.Ns N mN ∧ mN "__init__" = none ∧ OwnTail s1.heap bm bm' := by
    have e := q
    unfold PySem.W.excIn at e
    split at e
    · rename_i dd cd sl ho
      split at e
      · rename_i C' bm' k0 k1 k2 k3 n k5 hm hs
        simp only [Bool.and_eq_true, beq_iff_eq, Bool.not_eq_true'] at e
        obtain ⟨⟨⟨⟨⟨rfl, rfl⟩, hdel⟩, ht⟩, hok⟩, hni⟩ := e
        obtain ⟨nm, bs, mro, ns, qn, hd, sn, sub, ab, col, del⟩ := cd
        dsimp only at hm hdel hok hni
        subst hm hdel
        have hsl : sl = #[k0, k1, k2, k3, some (.builtin n), k5] := by
          obtain ⟨l⟩ := sl
          simp only at hs
          rw [hs]
        subst hsl
        exact ⟨bm', ns, nm, qn, bs, hd, sn, sub, ab, col, dd, k0, k1, k2, k3, k5, _, KX _ _ ho, .of_isNs (PySem.W.isNs_of_in KX hok), PySem.W.nsMap_none_of_in KX hok hni, PySem.W.tail_of_in KX ht⟩
      · cases e
    · cases e
  obtain ⟨tl, N', nm, qn, bs, hdct, sn, sub, ab, col, dd, k0, k1, k2, k3, k5, mN, hC, hN, hni, TL⟩ := Ow
  refine wpAny_Raise_call_subT (C := C) (nm := nm) (q := qn) (N := N') (bs := bs) (bm := tl) (hdct := hdct) (sn := sn) (sub := sub) (ab := ab) (col := col) (dd := dd) (k0 := k0) (k1 := k1) (k2 := k2) (k3 := k3) (k5 := k5)
    FB (mN := mN) (TL.hasType FB.hasBase) hh rfl hni (ld_glob I hg hm ⟨rfl, ?_⟩ hd)
  refine evalArgs_empty ⟨rfl, Nat.zero_le _, hC, hN, TL, fun h1 e mx => ?_⟩
  obtain ⟨t, he, htn, ht⟩ := mx.there
  have I2 : Inv (cxOf (CXE P w) P w K mg base N qual scope f cd A outer s H E) pins σ H1 { s1 with heap := h1 } := I.kept (t' := s1.toks) mx.keeps
  have st : h1.FunFrames base (envOfC qual scope s.heap.objs.size f cd :: outer) := I2.stack
  have He : H1 e = none := by
    cases z : H1 e with
    | none => rfl
    | some o =>
      obtain ⟨ob, z'⟩ := obj_ex (I.hok e o z)
      rw [mx.new] at z'; cases z'
  have ge : s.heap.get? e = none := by
    cases z : s.heap.get? e with
    | none => rfl
    | some o =>
      obtain ⟨ob, z'⟩ := I.base.there e o z (by show e ∉ ([] : List Addr); simp)
      rw [mx.new] at z'; cases z'
  show wpAny _ _ (leaving _ _) _ _ _
  refine wpAny_leaving_firstW (base := PySem.W.hideAll h1 (frs (envOfC qual scope s.heap.objs.size f cd :: outer) ++ [e, e])) (a0 := .ref t) I2.ok.frames (PySem.W.funFrames_hide st mem_frs) rfl he (fun b o z => PySem.W.of_hideAll _ z) (PySem.W.hideAll_none _ (by simp)) rfl rfl rfl fun h' L => ?_
  obtain ⟨x1, x2, x3, x4⟩ := L
  obtain ⟨u', hok', fl'⟩ := fly_core (g := s.heap) (H0 := H) (fs := frs outer) I2.base I2.hok st I2.stkFree (fun b hb => (List.mem_cons.mp (I2.stkSub b hb)).elim (fun z => .inr (by rw [z]; exact Heap.get?_none_of_le I2.ok.above)) .inl) ge ge He He x1 x2 x3 x4
  exact ⟨e, .ref C, H1, rfl, I2.os, I2.bare, u', hok', fl', hq⟩
end
end Px
set_option Elab.async false
set_option linter.all false
set_option maxRecDepth 100000
namespace Px
open PySem PySem.Spec PyProof.Rows L2
abbrev xmk (X : Cx) (e : Addr) : Cx := { X with A := X.A.mark (some (.ref e)), calm := false, xe := fun _ _ => False }
section
variable {X : Cx} {pins : List (Addr × Obj)} {σ : L2.St} {H H1 : Hp} {s s1 : Shared} {e : Addr} {cls : Value}
theorem inv_mk (I : Inv X pins σ H s) (e : Addr) : Inv (xmk X e) pins σ H s :=
  ⟨⟨I.ok.mod, I.ok.kind, I.ok.glob, I.ok.blt, I.ok.above, I.ok.inj, I.ok.has, I.ok.cab, fun z => Bool.noConfusion z, I.ok.frames, I.ok.stk, I.ok.exf, I.ok.bs, I.ok.bsz, I.ok.noex, I.ok.exfs, I.ok.funs, I.ok.frf⟩, I.os, I.bare, I.base, I.loc, I.cell, I.free, I.freeC, I.pin, I.hok, I.len⟩
theorem inv_unmk {e : Addr} (hd : X.calm = true → X.A.handled = none) (I : Inv (xmk X e) pins σ H s) : Inv X pins σ H s :=
  ⟨⟨I.ok.mod, I.ok.kind, I.ok.glob, I.ok.blt, I.ok.above, I.ok.inj, I.ok.has, I.ok.cab, hd, I.ok.frames, I.ok.stk, I.ok.exf, I.ok.bs, I.ok.bsz, I.ok.noex, I.ok.exfs, I.ok.funs, I.ok.frf⟩, I.os, I.bare, I.base, I.loc, I.cell, I.free, I.freeC, I.pin, I.hok, I.len⟩
/-- an exception has come in a call that was made at s1 -/
structure Came (X : Cx) (pins : List (Addr × Obj)) (σ : L2.St) (H1 : Hp) (s1 : Shared) (H : Hp) (e : Addr) (cls fl : Value) (s : Shared) : Prop where
  i1 : Inv X pins σ H1 s1
  os : s.os = s1.os
  bare : AllBare s.gens
  un : Un (frs X.stack) [] H1 H s1.heap s.heap
  hok : HOk X.prog X.w H s.heap
  fl : Fl s1.heap H e cls fl s.heap
theorem Came.inv {fl : Value} (c : Came X pins σ H1 s1 H e cls fl s) : Inv X pins σ H s := c.i1.call' (ch := []) c.os c.un c.hok c.bare (fun b z => absurd z (by simp))
theorem Came.ty {fl : Value} {M : Model} (c : Came X pins σ H1 s1 H e cls fl s) : PySem.W.Looks M s.heap (typeOf (.ref e)) cls := by
  obtain ⟨oe, vs, a0, T, oT, ts, he, ⟨hc, _⟩, _⟩ := c.fl
  rw [← hc]
  exact (PySem.W.Looks.ld he).andThen .now
theorem Came.note {Q : Unit → Shared → Prop} {E : Value → Shared → Prop} (hst : X.stack = X.env :: X.outer) (hf : X.env.frame = some X.env.locals) (c : Came X pins σ H1 s1 H e cls .none s)
    (h : ∀ h', Came X pins σ H1 s1 H e cls (rawInt X.env.locals) { s with heap := h' } → Q () { s with heap := h' }) : wpAny (model X.prog X.w) X.A (noteFrame (.ref e) X.env) Q E s := by
  obtain ⟨T, a0, tr, ge, gT, He, HT⟩ := c.fl.traced (l := frs X.stack)
  have I := c.inv
  have st := I.stack
  have fr := I.ok.frames
  refine wpAny_noteFrame_onW (outer := X.outer) (base := PySem.W.hideAll s.heap (frs X.stack ++ [e, T])) (by rw [← hst]; exact fr) (by rw [← hst]; exact PySem.W.funFrames_hide st mem_frs) hf tr (fun b o z => PySem.W.of_hideAll _ z) (PySem.W.hideAll_none _ (by simp)) fun h' L => ?_
  rw [← hst] at L
  obtain ⟨x1, x2, x3, x4⟩ := L
  obtain ⟨u', hok', fl'⟩ := fly_core c.un c.hok st I.stkFree (fun b hb => .inl hb) ge gT He HT x1 x2 x3 x4
  exact h h' ⟨c.i1, c.os, c.bare, u', hok', fl'⟩
theorem Came.land {fl : Value} {A : Around} {Q : Unit → Shared → Prop} {E : Value → Shared → Prop} (c : Came X pins σ H1 s1 H e cls fl s)
    (h : ∀ h', Came X pins σ H1 s1 H e cls .none { s with heap := h' } → Q () { s with heap := h' }) : wpAny (model X.prog X.w) A (setFlight (.ref e) none) Q E s := by
  obtain ⟨T, a0, tr, ge, gT, He, HT⟩ := c.fl.traced (l := frs X.stack)
  have I := c.inv
  have st := I.stack
  refine wpAny_setFlight_noneW (l := X.stack) (base := PySem.W.hideAll s.heap (frs X.stack ++ [e, T])) (fun b o z => PySem.W.of_hideAll _ z) (PySem.W.funFrames_hide st mem_frs) tr fun h' x1 x2 x3 x4 => ?_
  obtain ⟨u', hok', fl'⟩ := fly_core c.un c.hok st I.stkFree (fun b hb => .inl hb) ge gT He HT x1 x2 x3 (fun b o q n => ⟨o.slots, x4 b o q n⟩)
  exact h h' ⟨c.i1, c.os, c.bare, u', hok', fl'⟩
variable {x : Str} {C : Addr} {np pos : Pos} {b0 : Stmt} {suite : List Stmt} {rest : List ExceptHandler}
theorem Came.miss {fl : Value} {Q : Flow → Shared → Prop} {E : Value → Shared → Prop} (c : Came X pins σ H1 s1 H e cls fl s) (hg : Gl X x) (hm : X.mg x = some (.ref C)) (hx : PySem.W.exmOne X.K cls (.ref C) = some false)
    (h : wpAny (model X.prog X.w) X.A (handleBy (.ref e) X.env rest) Q E s) (hd : (x == ("__debug__" : Str)) = false := by decide) :
    wpAny (model X.prog X.w) X.A (handleBy (.ref e) X.env (.ExceptHandler (some (.Name x np)) none (b0 :: suite) pos :: rest)) Q E s := by
  have I := inv_mk c.inv e
  refine wpAny_handleBy_cons (codeAny_handlers_test (ld_glob I hg hm ?_ hd)) (by intro q; cases q)
  exact (PySem.W.exm_one I.kIn c.ty hx).here h
theorem SP.unmk {D : Ends} {f : Flow} {s' : Shared} (hd : X.calm = true → X.A.handled = none) (h : SP (xmk X e) pins D f s') : SP X pins D f s' := by
  cases f with
  | next => obtain ⟨σ', H', I, q⟩ := h; exact ⟨σ', H', inv_unmk hd I, q⟩
  | brk => obtain ⟨σ', H', I, q⟩ := h; exact ⟨σ', H', inv_unmk hd I, q⟩
  | cont => obtain ⟨σ', H', I, q⟩ := h; exact ⟨σ', H', inv_unmk hd I, q⟩
  | ret u => obtain ⟨v, σ', H', I, r, q⟩ := h; exact ⟨v, σ', H', inv_unmk hd I, r, q⟩
theorem Came.hit {fl : Value} {D : Ends} {t : TS} (c : Came X pins σ H1 s1 H e cls fl s) (hg : Gl X x) (hm : X.mg x = some (.ref C)) (hx : PySem.W.exmOne X.K cls (.ref C) = some true)
    (hb : PSs (xmk X e) (b0 :: suite) t) (ht : t D σ H) (hd : (x == ("__debug__" : Str)) = false := by decide) :
    wpAny (model X.prog X.w) X.A (handleBy (.ref e) X.env (.ExceptHandler (some (.Name x np)) none (b0 :: suite) pos :: rest)) (SP X pins D) X.xe s := by
  have I := inv_mk c.inv e
  refine wpAny_handleBy_cons (codeAny_handlers_test (ld_glob I hg hm ?_ hd)) (by intro q; cases q)
  refine (PySem.W.exm_one I.kIn c.ty hx).here (codeAny_handlers_suite ?_)
  refine c.land fun h' c' => ?_
  refine wpAny_mono (hb pins _ σ H D (inv_mk c'.inv e) ht) (fun f s' q => ?_) fun _ _ q => q.elim
  exact SP.unmk c.i1.ok.hd q
end
/-! try with three clauses, each of an own class, no name -/
def tTry (tb : XK → TS) (C1 C2 C3 : Addr) (t1 t2 t3 : TS) : TS := fun D σ H => tb (fun cls _ H' => ∀ σ', (cls = .ref C1 ∧ t1 D σ' H') ∨ (cls = .ref C2 ∧ t2 D σ' H') ∨ (cls = .ref C3 ∧ t3 D σ' H')) D σ H
section
variable {X : Cx}
abbrev byp (X : Cx) (pn : List (Addr × Obj)) (xe : Value → Shared → Prop) : Cx := { X with pn := pn, xe := xe }
theorem inv_byp {pins : List (Addr × Obj)} {σ : L2.St} {H : Hp} {s : Shared} (I : Inv X pins σ H s) (xe : Value → Shared → Prop) : Inv (byp X (X.pn ++ pins) xe) [] σ H s :=
  ⟨⟨I.ok.mod, I.ok.kind, I.ok.glob, I.ok.blt, I.ok.above, I.ok.inj, I.ok.has, I.ok.cab, I.ok.hd, I.ok.frames, I.ok.stk, I.ok.exf, I.ok.bs, I.ok.bsz, I.ok.noex, I.ok.exfs, I.ok.funs, I.ok.frf⟩, I.os, I.bare, I.base, I.loc, I.cell, I.free, I.freeC, fun p hp => I.pin p (by simpa using hp), I.hok, I.len⟩
theorem inv_unbyp {pins pins' : List (Addr × Obj)} {σ : L2.St} {H : Hp} {s : Shared} {xe : Value → Shared → Prop} (I : Inv (byp X (X.pn ++ pins) xe) pins' σ H s) : Inv X pins σ H s :=
  ⟨⟨I.ok.mod, I.ok.kind, I.ok.glob, I.ok.blt, I.ok.above, I.ok.inj, I.ok.has, I.ok.cab, I.ok.hd, I.ok.frames, I.ok.stk, I.ok.exf, I.ok.bs, I.ok.bsz, I.ok.noex, I.ok.exfs, I.ok.funs, I.ok.frf⟩, I.os, I.bare, I.base, I.loc, I.cell, I.free, I.freeC, fun p hp => I.pin p (List.mem_append_left _ hp), I.hok, I.len⟩
theorem ps_try {body : List Stmt} {x1 x2 x3 : Str} {C1 C2 C3 : Addr} {p1 p2 p3 q1 q2 q3 pos : Pos} {a1 a2 a3 : Stmt} {b1 b2 b3 : List Stmt} {tb : XK → TS} {t1 t2 t3 : TS} (hst : X.stack = X.env :: X.outer) (hf : X.env.frame = some X.env.locals)
    (hb : ∀ (pn : List (Addr × Obj)) (xe : Value → Shared → Prop) (E : XK), Passes (CXE X.prog X.w) (byp X pn xe) E → PSs (byp X pn xe) body (tb E))
    (g1 : Gl X x1) (g2 : Gl X x2) (g3 : Gl X x3) (m1 : X.mg x1 = some (.ref C1)) (m2 : X.mg x2 = some (.ref C2)) (m3 : X.mg x3 = some (.ref C3))
    (e11 : PySem.W.exmOne X.K (.ref C1) (.ref C1) = some true) (e21 : PySem.W.exmOne X.K (.ref C2) (.ref C1) = some false) (e22 : PySem.W.exmOne X.K (.ref C2) (.ref C2) = some true)
    (e31 : PySem.W.exmOne X.K (.ref C3) (.ref C1) = some false) (e32 : PySem.W.exmOne X.K (.ref C3) (.ref C2) = some false) (e33 : PySem.W.exmOne X.K (.ref C3) (.ref C3) = some true)
    (r1 : ∀ e, PSs (xmk X e) (a1 :: b1) t1) (r2 : ∀ e, PSs (xmk X e) (a2 :: b2) t2) (r3 : ∀ e, PSs (xmk X e) (a3 :: b3) t3)
    (d1 : (x1 == ("__debug__" : Str)) = false := by decide) (d2 : (x2 == ("__debug__" : Str)) = false := by decide) (d3 : (x3 == ("__debug__" : Str)) = false := by decide) :
    PS X (.Try body [.ExceptHandler (some (.Name x1 p1)) none (a1 :: b1) q1, .ExceptHandler (some (.Name x2 p2)) none (a2 :: b2) q2, .ExceptHandler (some (.Name x3 p3)) none (a3 :: b3) q3] [] [] pos) (tTry tb C1 C2 C3 t1 t2 t3) := by
  intro pins s σ H D I hq
  refine wpAny_Try_except ?_
  refine wpAny_mono (hb (X.pn ++ pins) (fun e s1 => wpAny (model X.prog X.w) X.A (noteFrame e X.env) (fun _ s₂ => wpAny (model X.prog X.w) X.A (setFlight e none) (fun _ s₃ => wpAny (model X.prog X.w) X.A (handleBy e X.env _) (SP X pins D) X.xe s₃) X.xe s₂) X.xe s1) _ ?_
    [] s σ H D (inv_byp I _) hq) (fun f s' q => ?_) fun e s' q => q
  · intro pins' σ' H1 s1 e s2 I1 hx
    obtain ⟨ea, cls, H', rfl, os, bare, un, hok, fl, q⟩ := hx
    have c : Came X pins σ' H1 s1 H' ea cls .none s2 := ⟨inv_unbyp I1, os, bare, un, hok, fl⟩
    refine c.note hst hf fun h3 c3 => c3.land fun h4 c4 => ?_
    rcases q σ' with ⟨rfl, q'⟩ | ⟨rfl, q'⟩ | ⟨rfl, q'⟩
    · exact c4.hit g1 m1 e11 (r1 ea) q' d1
    · exact c4.miss g1 m1 e21 (c4.hit g2 m2 e22 (r2 ea) q' d2) d1
    · exact c4.miss g1 m1 e31 (c4.miss g2 m2 e32 (c4.hit g3 m3 e33 (r3 ea) q' d3) d2) d1
  · cases f with
    | next =>
      obtain ⟨σ', H', I', q⟩ := q
      exact wpAny_execs_nil ⟨σ', H', inv_unbyp I', q⟩
    | brk => obtain ⟨σ', H', I', q⟩ := q; exact ⟨σ', H', inv_unbyp I', q⟩
    | cont => obtain ⟨σ', H', I', q⟩ := q; exact ⟨σ', H', inv_unbyp I', q⟩
    | ret u => obtain ⟨v, σ', H', I', r, q⟩ := q; exact ⟨v, σ', H', inv_unbyp I', r, q⟩
end
end Px
set_option Elab.async false
set_option linter.all false
set_option maxRecDepth 100000
set_option maxHeartbeats 2000000
namespace Px
open PySem PySem.Spec PyProof.Rows L2
/-! ### the text by places -/
def top (i : Nat) : Stmt := PySem.Challenge.pw_pipenet_s01_answers.main.body.getD i (.Pass ⟨0, 0, 0, 0⟩)
abbrev sCarry : Stmt := top 3
abbrev sCarI : Stmt := inClass (top 4) 0
abbrev sGain : Stmt := inClass (top 4) 1
abbrev sOnce : Stmt := inClass (top 4) 2
abbrev sSeaI : Stmt := inClass (top 5) 0
abbrev sNear : Stmt := inClass (top 5) 1
abbrev sLook : Stmt := inClass (top 5) 2
abbrev sPath : Stmt := inClass (top 5) 3
abbrev sPut : Stmt := top 6
abbrev sFill : Stmt := top 8
abbrev sShort : Stmt := top 9
abbrev sAdv : Stmt := top 10
abbrev sBef : Stmt := top 11
abbrev sEnd : Stmt := top 12
abbrev sRooI : Stmt := inClass (top 18) 0
abbrev sAddL : Stmt := inClass (top 18) 1
abbrev sPush : Stmt := inClass (top 18) 2
abbrev sCost : Stmt := inClass (top 18) 3
abbrev sSteps : Stmt := inClass (top 18) 4
abbrev sNetI : Stmt := inClass (top 26) 0
abbrev sBegin : Stmt := inClass (top 26) 1
abbrev sLay : Stmt := inClass (top 26) 2
abbrev sSend : Stmt := inClass (top 26) 3
abbrev sNarrow : Stmt := inClass (top 26) 4
abbrev sWays : Stmt := inClass (top 26) 5
abbrev sPlace : Stmt := inClass (top 26) 6
abbrev sEnds : Stmt := inClass (top 26) 7
abbrev sFloI : Stmt := inClass (top 27) 0
abbrev sSmall : Stmt := inClass (top 27) 1
abbrev sGreat : Stmt := inClass (top 27) 2
abbrev sRange : Stmt := top 28
abbrev sAns : Stmt := top 35
abbrev sAor : Stmt := top 36
abbrev sAof : Stmt := top 37
/-! ### defs, methods, classes as a caller wants them -/
section
variable (P : Program) (w : World) (K : PySem.W.Frag) (mg : Str → Option Value) (base : Heap)
def GF (CX : CXT) (k : Nat) (x : Str) (ps : List Str) (sp : Sp) : Prop := ∃ f fd, FnOk P w K mg base CX k f fd ps sp ∧ Binds K fd ps [] ∧ mg x = some (.ref f) ∧ PySem.W.keepIn K (.ref f) = true
def MF (CX : CXT) (k : Nat) (C : Addr) (m : Str) (ps : List Str) (sp : Sp) : Prop := ∃ f fd, FnOk P w K mg base CX k f fd ps sp ∧ Binds K fd ps [] ∧ Meth K C m f
def IF (CX : CXT) (k : Nat) (x : Str) (C : Addr) (ps : List Str) (sp : Sp) : Prop := ∃ f fd, FnOk P w K mg base CX k f fd ps sp ∧ Binds K fd ps [] ∧ Mk K C f ∧ mg x = some (.ref C)
end
/-- the builtins' names are not hidden -/
structure TB (mg : Str → Option Value) : Prop where
  len : mg "len" = none
  range : mg "range" = none
  min : mg "min" = none
  sum : mg "sum" = none
/-! ### heaps -/
/-- all is kept but what stands at W -/
def Kp (W : List Addr) (H H' : Hp) : Prop := ∀ b o, H b = some o → b ∉ W → H' b = some o
theorem Kp.refl {W : List Addr} (H : Hp) : Kp W H H := fun _ _ h _ => h
theorem Kp.trans {W : List Addr} {H H1 H2 : Hp} (a : Kp W H H1) (b : Kp W H1 H2) : Kp W H H2 := fun c o h n => b c o (a c o h n) n
theorem Kp.mono {W W' : List Addr} {H H1 : Hp} (a : Kp W H H1) (h : ∀ b, b ∈ W → b ∈ W') : Kp W' H H1 := fun c o e n => a c o e fun m => n (h c m)
theorem Kp.upd {W : List Addr} {H H1 : Hp} {a : Addr} {o : HO} (k : Kp W H H1) (ha : a ∈ W) : Kp W H (L2.upd H1 a o) := fun c u e n => by
  have q : c ≠ a := fun z => n (by rw [z]; exact ha)
  rw [upd_ne q]; exact k c u e n
theorem Kp.new {W : List Addr} {H H1 : Hp} {a : Addr} {o : HO} (k : Kp W H H1) (ha : H1 a = none) : Kp W H (L2.upd H1 a o) := fun c u e n => by
  have h1 := k c u e n
  rw [upd_ne (ne_of_none h1 ha)]; exact h1
theorem Kp.fresh {W : List Addr} {H H1 : Hp} {a : Addr} {o : HO} (k : Kp W H H1) (hn : H a = none) : Kp W H (L2.upd H1 a o) := fun c u e n => by
  rw [upd_ne (ne_of_none e hn)]; exact k c u e n
theorem Kp.free {W : List Addr} {H H1 : Hp} {a : Addr} (k : Kp W H H1) (hn : H1 a = none) (ha : a ∉ W) : H a = none := by
  cases q : H a with
  | none => rfl
  | some o => rw [k a o q ha] at hn; cases hn
/-! ### lists of numbers -/
abbrev nI (l : List Int) : List V := l.map V.int
abbrev nN (l : List Nat) : List V := l.map fun (j : Nat) => V.int (j : Int)
theorem ints_at {l : List Int} {j : Nat} (h : j < l.length) : (nI l)[j]? = some (V.int (Pn.g l j)) := by
  rw [List.getElem?_map, Pn.g_some h]; rfl
theorem ints_set {l : List Int} {j : Nat} {y : Int} : (nI l).set j (V.int y) = nI (l.set j y) := by unfold nI; rw [List.map_set]
theorem atI_ints {l : List Int} {j : Nat} {z : Int} (e : z = (j : Int)) (h : j < l.length) : atI (nI l) z = some (V.int (Pn.g l j)) := at_of e (ints_at h)
theorem ixN_nat {n j : Nat} {z : Int} (e : z = (j : Int)) (h : j < n) : ixN n z = some j := by
  subst e
  unfold ixN
  rw [if_pos (Int.natCast_nonneg _), if_pos (by omega)]
  simp
theorem nats_at {l : List Nat} {j y : Nat} (h : l[j]? = some y) : (nN l)[j]? = some (V.int (y : Int)) := by
  rw [List.getElem?_map, h]; rfl
/-! ### rooms -/
def rf (n : Nat) (lh lr lp ll : Addr) : List (Str × V) := [("places", .int n), ("heads", .ref lh), ("room", .ref lr), ("prices", .ref lp), ("lanes", .ref ll)]
theorem rf_places {n : Nat} {lh lr lp ll : Addr} : (rf n lh lr lp ll).lookup ("places" : Str) = some (.int n) := by rfl
theorem rf_heads {n : Nat} {lh lr lp ll : Addr} : (rf n lh lr lp ll).lookup ("heads" : Str) = some (.ref lh) := by rfl
theorem rf_room {n : Nat} {lh lr lp ll : Addr} : (rf n lh lr lp ll).lookup ("room" : Str) = some (.ref lr) := by rfl
theorem rf_prices {n : Nat} {lh lr lp ll : Addr} : (rf n lh lr lp ll).lookup ("prices" : Str) = some (.ref lp) := by rfl
theorem rf_lanes {n : Nat} {lh lr lp ll : Addr} : (rf n lh lr lp ll).lookup ("lanes" : Str) = some (.ref ll) := by rfl
/-- the addresses of rooms' lists -/
structure RA where
  dx : Addr
  lh : Addr
  lr : Addr
  lp : Addr
  ll : Addr
  ls : List Addr
structure Raw (C : Addr) (H : Hp) (p : Addr) (A : RA) (n : Nat) (hs r ps : List Int) (ln : Nat → List Nat) : Prop where
  obj : H p = some (.ins C A.dx (rf n A.lh A.lr A.lp A.ll))
  heads : H A.lh = some (.lst (nI hs))
  room : H A.lr = some (.lst (nI r))
  prices : H A.lp = some (.lst (nI ps))
  lanes : H A.ll = some (.lst (A.ls.map V.ref))
  lsl : A.ls.length = n
  lane : ∀ (v : Nat) (a : Addr), A.ls[v]? = some a → H a = some (.lst (nN (ln v)))
  nd : (p :: A.lh :: A.lr :: A.lp :: A.ll :: A.ls).Nodup
def hdL (N : Pn.FN) : List Int := (List.range (2 * N.m)).map fun j => (Pn.hd N j : Int)
def prL (N : Pn.FN) : List Int := (List.range (2 * N.m)).map fun j => Pn.pr N j
/-- rooms of the net N stand at p, with the room r -/
def RoomsAt (C : Addr) (H : Hp) (p : Addr) (N : Pn.FN) (A : RA) (r : List Int) : Prop := Raw C H p A N.n (hdL N) r (prL N) (Pn.lanesOf N)
theorem Raw.nr {C : Addr} {H : Hp} {p : Addr} {A : RA} {n : Nat} {hs r ps : List Int} {ln : Nat → List Nat} (R : Raw C H p A n hs r ps ln) : p ≠ A.lr ∧ A.lh ≠ A.lr ∧ A.lp ≠ A.lr ∧ A.ll ≠ A.lr ∧ A.lr ∉ A.ls := by
  have nd := R.nd
  simp only [List.nodup_cons, List.mem_cons, not_or] at nd
  obtain ⟨⟨a1, a2, a3, a4, a5⟩, ⟨b1, b2, b3, b4⟩, ⟨c1, c2, c3⟩, _⟩ := nd
  exact ⟨a2, b1, fun q => c1 q.symm, fun q => c2 q.symm, c3⟩
/-- the room is written -/
theorem Raw.put {C : Addr} {H H' : Hp} {p : Addr} {A : RA} {n : Nat} {hs r r' ps : List Int} {ln : Nat → List Nat} (R : Raw C H p A n hs r ps ln) (k : Kp [A.lr] H H') (h : H' A.lr = some (.lst (nI r'))) : Raw C H' p A n hs r' ps ln := by
  obtain ⟨a1, a2, a3, a4, a5⟩ := R.nr
  refine ⟨k _ _ R.obj (by simp [a1]), k _ _ R.heads (by simp [a2]), h, k _ _ R.prices (by simp [a3]), k _ _ R.lanes (by simp [a4]), R.lsl, fun v a e => k _ _ (R.lane v a e) ?_, R.nd⟩
  intro q
  simp at q
  exact a5 (q ▸ List.mem_of_getElem? e)
/-- all of it is kept -/
theorem Raw.keep {C : Addr} {H H' : Hp} {p : Addr} {A : RA} {n : Nat} {hs r ps : List Int} {ln : Nat → List Nat} (R : Raw C H p A n hs r ps ln) (k : ∀ b o, H b = some o → b ∈ p :: A.lh :: A.lr :: A.lp :: A.ll :: A.ls → H' b = some o) : Raw C H' p A n hs r ps ln := by
  refine ⟨k _ _ R.obj (by simp), k _ _ R.heads (by simp), k _ _ R.room (by simp), k _ _ R.prices (by simp), k _ _ R.lanes (by simp), R.lsl, fun v a e => k _ _ (R.lane v a e) ?_, R.nd⟩
  have := List.mem_of_getElem? e
  simp [this]
theorem hdL_len (N : Pn.FN) : (hdL N).length = 2 * N.m := by simp [hdL]
theorem prL_len (N : Pn.FN) : (prL N).length = 2 * N.m := by simp [prL]
theorem g_hdL {N : Pn.FN} {j : Nat} (h : j < 2 * N.m) : Pn.g (hdL N) j = (Pn.hd N j : Int) := by
  unfold Pn.g hdL; rw [List.getD_eq_getElem?_getD, List.getElem?_map, List.getElem?_range h]; rfl
theorem g_prL {N : Pn.FN} {j : Nat} (h : j < 2 * N.m) : Pn.g (prL N) j = Pn.pr N j := by
  unfold Pn.g prL; rw [List.getD_eq_getElem?_getD, List.getElem?_map, List.getElem?_range h]; rfl
/-- what of the text the class Rooms has -/
structure TRoo (K : PySem.W.Frag) (C : Addr) : Prop where
  cl : Cls K C
  nPlaces : NoAttr K C "places"
  nHeads : NoAttr K C "heads"
  nRoom : NoAttr K C "room"
  nPrices : NoAttr K C "prices"
  nLanes : NoAttr K C "lanes"
theorem xor1 (j : Nat) : Builtin.bitXor (j : Int) 1 = (Pn.ot j : Int) := by
  rw [Bits.bitXor_pp (Int.natCast_nonneg _) (by decide)]
  have e := Bits.nat_xor_add_and j 1
  rw [Nat.and_one_is_mod] at e
  show ((((j : Int).toNat ^^^ (1 : Nat) : Nat)) : Int) = _
  rw [Int.toNat_natCast]
  unfold Pn.ot
  split <;> omega
theorem xor0 (j : Nat) : Builtin.bitXor (j : Int) 0 = (j : Int) := by
  rw [Bits.bitXor_pp (Int.natCast_nonneg _) (by decide)]
  show ((((j : Int).toNat ^^^ (0 : Nat) : Nat)) : Int) = _
  rw [Int.toNat_natCast, Nat.xor_zero]
end Px
set_option Elab.async false
set_option linter.all false
set_option maxRecDepth 100000
set_option maxHeartbeats 2000000
namespace Px
open PySem PySem.Spec PyProof.Rows L2
section
variable {X : Cx}
def rGet : V → V → Hp → VK → Prop := fun x y H Q => ∃ (p : Addr) (xs : List V) (i : Int) (j : Nat) (v : V), x = .ref p ∧ y = .int i ∧ H p = some (.lst xs) ∧ i = (j : Int) ∧ xs[j]? = some v ∧ Q v H
theorem get_list : PGet X rGet := by
  intro pins s σ H o i ov iv Q I ro ri h
  obtain ⟨p, xs, k, j, z, rfl, rfl, hq, rfl, he, q⟩ := h
  cases ro
  obtain ⟨t, rfl⟩ := ri
  obtain ⟨its, r, pl, hz⟩ := I.list (SqL.of hq)
  obtain ⟨w, ew, rw'⟩ := r.get he
  have hl := r.length
  have hn := line63
  have hj : j < xs.length := (List.getElem?_eq_some_iff.mp he).1
  exact wpAny_getItem_list pl.isList (Int.natCast_nonneg _) (by omega) (by simpa using ew) ⟨z, H, I, rw', q⟩
def insL {α : Type} (xs : List α) (i : Int) (y : α) : List α := xs.take i.toNat ++ y :: xs.drop i.toNat
def rInsert : V → List V → Hp → VK → Prop := fun x vs H Q => ∃ l xs i y, x = .ref l ∧ vs = [.int i, y] ∧ H l = some (.lst xs) ∧ 0 ≤ i ∧ i ≤ xs.length ∧ xs.length < sizeLine ∧ Q .non (upd H l (.lst (insL xs i y)))
theorem mt_insert : MtM X "list.insert" rInsert := by
  intro pins s σ H x vs v us Q I rx rv h
  obtain ⟨l, xs, i, y, rfl, rfl, hH, h0, h1, hz, q⟩ := h
  cases rx
  obtain ⟨u, w', rfl, ⟨t, rfl⟩, ru⟩ := vals2 rv
  obtain ⟨z, its, n, r, hl, e⟩ := I.lstM hH
  have hn := line63
  have hfit : Builtin.List.listFitsIndex i = true := by
    unfold Builtin.List.listFitsIndex
    simp only [Bool.and_eq_true, decide_eq_true_eq]
    constructor <;> omega
  refine call_meets F.slot_list_insert ⟨_, e, rfl⟩ F.entry_list_insert (F.args_list_insert_3 _ _ _) (PySem.AutoSeq1.list_insert_list_int_val_1 l its.toArray n i t w' (by simp [hfit]) (by rw [List.size_toArray]; omega)) ⟨e, ?_⟩
  refine ⟨.non, _, I.lset (its' := insL its i w') hH e ?_ ?_ ?_, rfl, q⟩
  · apply Array.toList_inj.mp
    have : min i.toNat its.length = i.toNat := by omega
    simp [insL, if_neg (show ¬ i < 0 by omega), this]
    exact List.take_of_length_le (by simp)
  · exact (r.take _).append (.cons ru (r.drop _))
  · unfold insL
    rw [List.length_append, List.length_cons, List.length_take, List.length_drop]
    omega
theorem vals3 {x y z : V} {us : List Value} (r : Vals [x, y, z] us) : ∃ u w v, us = [u, w, v] ∧ RelV x u ∧ RelV y w ∧ RelV z v := by
  cases r with
  | cons a r => cases r with
    | cons b r => cases r with
      | cons c r => cases r; exact ⟨_, _, _, rfl, a, b, c⟩
theorem call_min3 (hc : X.calm = true) : CallR X (.builtin "min") (fun xs H Q => ∃ i j k, xs = [.int i, .int j, .int k] ∧ ∀ m, m ≤ i → m ≤ j → m ≤ k → (m = i ∨ m = j ∨ m = k) → Q (.int m) H) := by
  intro pins s σ H xs us Q I r h
  obtain ⟨i, j, k, rfl, q⟩ := h
  obtain ⟨u, w', v', rfl, ⟨t, rfl⟩, ⟨t', rfl⟩, ⟨t'', rfl⟩⟩ := vals3 r
  refine min_three_ints (I.ok.hd hc) fun h' tk kk => ?_
  by_cases hj : j < i
  · rw [if_pos hj]
    by_cases hk : k < j
    · rw [if_pos hk]; exact ⟨.int k, H, I.kept kk, ⟨_, rfl⟩, q k (by omega) (by omega) (by omega) (by simp)⟩
    · rw [if_neg hk]; exact ⟨.int j, H, I.kept kk, ⟨_, rfl⟩, q j (by omega) (by omega) (by omega) (by simp)⟩
  · rw [if_neg hj]
    by_cases hk : k < i
    · rw [if_pos hk]; exact ⟨.int k, H, I.kept kk, ⟨_, rfl⟩, q k (by omega) (by omega) (by omega) (by simp)⟩
    · rw [if_neg hk]; exact ⟨.int i, H, I.kept kk, ⟨_, rfl⟩, q i (by omega) (by omega) (by omega) (by simp)⟩
end
theorem lc_rangeC {lo c : Int} {n : Nat} {g : TG} {tt : TT} {te : TE} {vs : List Nat} {σ : L2.St} {H1 : Hp} {D : Addr} {Qd : Hp → Prop} (Pv : Nat → Hp → Prop) (h0 : Pv 0 (upd H1 D (.lst [])))
    (hs : ∀ i H, i < n → Pv i H → g (.int (lo + (i : Nat) * c)) (wipe σ vs) H fun σ2 H2 => wipe σ2 vs = wipe σ vs ∧ tt σ2 H2 fun b H3 =>
      if b = true then te σ2 H3 fun y H4 => ∃ acc, H4 D = some (.lst acc) ∧ acc.length < sizeLine ∧ Pv (i + 1) (upd H4 D (.lst (acc ++ [y]))) else Pv (i + 1) H3) (hd : ∀ H, Pv n H → Qd H) :
    ∃ W : Nat → Nat → Hp → Prop, (∃ m, W 0 m (upd H1 D (.lst []))) ∧ ∀ i m H, W i m H →
      ((Itc lo c n).stop i H ∧ Qd H) ∨ ((Itc lo c n).go i H ∧ ∃ Nx : Hp → Prop, (∀ H', Nx H' → ∃ m', m' < m ∧ W (i + 1) m' H') ∧ ∀ x H', (Itc lo c n).yld i H x H' → g x (wipe σ vs) H' fun σ2 H2 => wipe σ2 vs = wipe σ vs ∧ tt σ2 H2 fun b H3 =>
        if b = true then te σ2 H3 fun y H4 => ∃ acc, H4 D = some (.lst acc) ∧ acc.length < sizeLine ∧ Nx (upd H4 D (.lst (acc ++ [y]))) else Nx H3) := by
  refine ⟨fun i m H => m = n - i ∧ i ≤ n ∧ Pv i H, ⟨n, by simp, Nat.zero_le _, h0⟩, ?_⟩
  rintro i m H ⟨rfl, hi, p⟩
  by_cases hlt : i < n
  · refine .inr ⟨hlt, Pv (i + 1), fun H' p' => ⟨n - (i + 1), by omega, rfl, hlt, p'⟩, fun x H' y => ?_⟩
    obtain ⟨e, y⟩ := y
    subst e y
    exact hs i _ hlt p
  · have e : i = n := by omega
    subst e
    exact .inl ⟨Nat.le_refl _, hd H p⟩
theorem tY {σ : L2.St} {H : Hp} {f g : Hp → Prop} (h : f H) : tYes σ H (fun b H' => if b = true then f H' else g H') := by
  show if true = true then f H else g H
  rw [if_pos rfl]; exact h
theorem tyL {K : PySem.W.Frag} {H : Hp} {p : Addr} {xs : List V} (h : H p = some (.lst xs)) : tyV K "list" (.ref p) H := .inl ⟨rfl, _, SqL.of h⟩
section
variable {X : Cx} {e : Expr} {ta : TE} {f : Str} {pos : Pos}
theorem ix_listK (K : PySem.W.Frag) (h : X.K = K := by rfl) : IxR X (rIxL K) := by subst h; exact ix_list
theorem ix_tupK (K : PySem.W.Frag) (h : X.K = K := by rfl) : IxR X (rIxT K) := by subst h; exact ix_tup
theorem pe_fldK (K : PySem.W.Frag) (he : PE X e ta) (hb : attributeBase e f X.env (eval e X.env) = eval e X.env) (h : X.K = K := by rfl) : PE X (.Attribute e f pos) (tFld K ta f) := by subst h; exact pe_fld he hb
end
end Px
set_option Elab.async false
set_option linter.all false
set_option maxRecDepth 100000
set_option maxHeartbeats 2000000
namespace Px
open PySem PySem.Spec PyProof.Rows L2
section
variable {P : Program} {w : World} {K : PySem.W.Frag} {mg : Str → Option Value} {base : Heap}
/-! ### end_of -/
def spEnd (C : Addr) : Sp := fun vs H Q _ => ∃ (p q : Addr) (N : Pn.FN) (A : RA) (r : List Int) (path : List Nat) (s : Nat), vs = [.ref p, .ref q, .int s] ∧ RoomsAt C H p N A r ∧ H q = some (.lst (nN path)) ∧ (∀ j, j ∈ path → j < 2 * N.m) ∧ Q (.int (Pn.vlast N s path : Nat)) H
theorem scEnd : FnScope ["rooms", "path", "start"] ["rooms", "path", "start"] (defScope sEnd) := ⟨rfl, rfl, rfl, by decide +kernel, rfl, by decide +kernel, by decide +kernel⟩
theorem ok_end {f C : Addr} {fd : FuncData} (F : Fun K "end_of" "end_of" sEnd f fd) (T : TRoo K C) : FnOk P w K mg base CX0 1 f fd ["rooms", "path", "start"] (spEnd C) := by
  refine F.ok scEnd (fun vs H Q E h => ?_) (fun cdv A outer s H vs Q E hr h => ?_)
  · obtain ⟨p, q, N, A, r, path, s, rfl, _⟩ := h
    rfl
  · obtain ⟨p, q, N, A, r, path, s, rfl, R, hq, hl, k⟩ := h
    refine ⟨_, pss_one (ps_ret (pe_ifExp (pt_truth (pv 1) (fun _ => rfl)) (pe_ix ix_list (pe_fld (pv 0) rfl) (pe_ix ix_list (pv 1) (pe_un un_neg pe_int) (fun _ _ => rfl)) (fun _ _ => rfl)) (pv 2))), ?_⟩
    refine ⟨_, rfl, _, .inl ⟨_, SqL.of hq, rfl⟩, ?_⟩
    rcases List.eq_nil_or_concat path with e | ⟨l, x, e⟩
    · subst e
      exact iteF ⟨_, rfl, k⟩
    · rw [List.concat_eq_append] at e
      subst e
      have hx : x < 2 * N.m := hl x (by simp)
      have e2 : (!(nN (l ++ [x])).isEmpty) = true := by simp [nN]
      rw [e2]
      refine iteT ⟨_, rfl, p, C, A.dx, _, _, rfl, R.obj, T.cl, T.nHeads, rf_heads, _, rfl, _, rfl, q, _, _, _, rfl, rfl, SqL.of hq, ?_, A.lh, _, _, _, rfl, rfl, SqL.of R.heads, atI_ints rfl (by rw [hdL_len]; exact hx), ?_⟩
      · show atI (nN (l ++ [x])) (-1) = some (V.int (x : Int))
        unfold nN
        rw [List.map_append]
        exact atI_last _ _
      · rw [g_hdL hx]
        rw [Pn.vlast_snoc] at k
        exact k
/-! ### Rooms.push -/
def spPush (C : Addr) : Sp := fun vs H Q _ => ∃ (p q : Addr) (N : Pn.FN) (A : RA) (r : List Int) (path : List Nat) (u : Int), vs = [.ref p, .ref q, .int u] ∧ RoomsAt C H p N A r ∧ r.length = 2 * N.m ∧ H q = some (.lst (nN path)) ∧ q ≠ A.lr ∧ (∀ j, j ∈ path → j < 2 * N.m) ∧
  ∀ H', RoomsAt C H' p N A (Pn.pushL u r path) → Kp [A.lr] H H' → Q .non H'
theorem scPush : FnScope ["self", "path", "units", "lane"] ["self", "path", "units"] (defScope sPush) := ⟨rfl, rfl, rfl, by decide +kernel, rfl, by decide +kernel, by decide +kernel⟩
theorem pushL_len (u : Int) : ∀ (path : List Nat) (r : List Int), (Pn.pushL u r path).length = r.length
  | [], _ => rfl
  | j :: l, r => by
    show (Pn.pushL u (Pn.ps1 u r j) l).length = _
    rw [pushL_len u l, Pn.ps1_len]
theorem pushL_snoc (u : Int) (r : List Int) (l : List Nat) (j : Nat) : Pn.pushL u r (l ++ [j]) = Pn.ps1 u (Pn.pushL u r l) j := by
  unfold Pn.pushL; rw [List.foldl_append]; rfl
theorem ok_push {f C : Addr} {fd : FuncData} (F : Fun K "push" "Rooms.push" sPush f fd) (T : TRoo K C) : FnOk P w K mg base CX0 1 f fd ["self", "path", "units"] (spPush C) := by
  refine F.ok scPush (fun vs H Q E h => ?_) (fun cdv A outer s H vs Q E hr h => ?_)
  · obtain ⟨p, q, N, A, r, path, u, rfl, _⟩ := h
    rfl
  · obtain ⟨p, q, N, A, r, path, u, rfl, R, hrl, hq, hqr, hl, k⟩ := h
    refine ⟨_, pss_one (ps_for PassesOwn.never rfl (pi_list (pv 1)) (pg_name (i := 3) scPush.nd rfl (Or.inl rfl))
      (pss_cons (ps_augS (pe_fld (pv 0) rfl) (pv 3) get_list (pv 2) ip_sub set_list)
        (pss_one (ps_augS (pe_fld (pv 0) rfl) (pe_op op_xor (pv 3) pe_int) get_list (pv 2) ip_add set_list)))), ?_⟩
    refine ⟨_, rfl, q, rfl, ⟨_, SqL.of hq⟩, for_list (K := K) (a := q) (xs := nN path) (fun i σ H' => ∃ v : Option V, σ = [some (.ref p), some (.ref q), some (.int u), v] ∧ RoomsAt C H' p N A (Pn.pushL u r (path.take i)) ∧ Kp [A.lr] H H')
      ⟨none, rfl, R, Kp.refl H⟩ (fun i σ H' _ ⟨_, _, _, kp⟩ => SqL.of (kp _ _ hq (by simp [hqr]))) ?_ ?_⟩
    · rintro i y σ H' hi ⟨v, rfl, R1, kp⟩
      obtain ⟨j, hj, rfl⟩ : ∃ j, path[i]? = some j ∧ y = V.int (j : Int) := by
        rw [List.getElem?_map] at hi
        cases e : path[i]? with
        | none => rw [e] at hi; cases hi
        | some z => rw [e] at hi; exact ⟨z, rfl, (Option.some.inj hi).symm⟩
      have hj2 := hl j (List.mem_of_getElem? hj)
      have len1 : (Pn.pushL u r (path.take i)).length = 2 * N.m := by rw [pushL_len]; exact hrl
      have et : path.take (i + 1) = path.take i ++ [j] := by rw [List.take_add_one, hj]; rfl
      generalize er : Pn.pushL u r (path.take i) = r1 at R1 len1
      have R2 : RoomsAt C (upd H' A.lr (.lst (nI (r1.set j (Pn.g r1 j - u))))) p N A (r1.set j (Pn.g r1 j - u)) := Raw.put R1 ((Kp.refl H').upd (by simp)) upd_same
      refine ⟨_, rfl, p, C, A.dx, _, _, rfl, R1.obj, T.cl, T.nRoom, rf_room, _, rfl, A.lr, _, _, j, _, rfl, rfl, R1.room, rfl, ints_at (by omega), _, rfl, _, _, rfl, rfl, A.lr, _, _, j, rfl, rfl, R1.room, ixN_nat rfl (by simp [nI]; omega), ?_⟩
      rw [ints_set]
      refine ⟨_, rfl, p, C, A.dx, _, _, rfl, R2.obj, T.cl, T.nRoom, rf_room, _, rfl, _, _, rfl, rfl, A.lr, _, _, Pn.ot j, _, rfl, rfl, R2.room, xor1 j, ints_at (by rw [List.length_set]; have := Pn.ot_lt hj2; omega), _, rfl, _, _, rfl, rfl, A.lr, _, _, Pn.ot j, rfl, rfl, R2.room, ixN_nat (xor1 j) (by simp [nI]; have := Pn.ot_lt hj2; omega), ?_⟩
      rw [ints_set]
      refine ⟨_, rfl, ?_, ?_⟩
      · rw [et, pushL_snoc, er]
        exact Raw.put R2 ((Kp.refl _).upd (by simp)) upd_same
      · exact (kp.upd (by simp)).upd (by simp)
    · rintro σ H' ⟨v, rfl, R1, kp⟩
      rw [show (nN path).length = path.length by simp [nN], List.take_length] at R1
      exact k H' R1 kp
end
end Px
set_option Elab.async false
set_option linter.all false
set_option maxRecDepth 100000
set_option maxHeartbeats 2000000
namespace Px
open PySem PySem.Spec PyProof.Rows L2
/-! ### Rooms.add_lane -/
def spAddL (C : Addr) : Sp := fun vs H Q _ => ∃ (p : Addr) (A : RA) (n : Nat) (hs r ps : List Int) (ln : Nat → List Nat) (t : Nat) (hd rm pr : Int), vs = [.ref p, .int t, .int hd, .int rm, .int pr] ∧ Raw C H p A n hs r ps ln ∧ t < n ∧
  hs.length < sizeLine ∧ r.length < sizeLine ∧ ps.length < sizeLine ∧ (ln t).length < sizeLine ∧
  ∀ H', Raw C H' p A n (hs ++ [hd]) (r ++ [rm]) (ps ++ [pr]) (fun v => if v = t then ln v ++ [hs.length] else ln v) → Kp (A.lh :: A.lr :: A.lp :: A.ls) H H' → Q .non H'
theorem scAddL : FnScope ["self", "tail", "head", "room", "price"] ["self", "tail", "head", "room", "price"] (defScope sAddL) := ⟨rfl, rfl, rfl, by decide +kernel, rfl, by decide +kernel, by decide +kernel⟩
section
variable {P : Program} {w : World} {K : PySem.W.Frag} {mg : Str → Option Value} {base : Heap}
theorem nI_snoc (l : List Int) (y : Int) : nI l ++ [V.int y] = nI (l ++ [y]) := by simp [nI]
theorem nN_snoc (l : List Nat) (y : Nat) : nN l ++ [V.int (y : Int)] = nN (l ++ [y]) := by simp [nN]
theorem ok_addL {f C : Addr} {fd : FuncData} (F : Fun K "add_lane" "Rooms.add_lane" sAddL f fd) (T : TRoo K C) (B : TB mg) : FnOk P w K mg base CX0 1 f fd ["self", "tail", "head", "room", "price"] (spAddL C) := by
  refine F.ok scAddL (fun vs H Q E h => ?_) (fun cdv A outer s H vs Q E hr h => ?_)
  · obtain ⟨p, A, n, hs, r, ps, ln, t, hd, rm, pr, rfl, _⟩ := h
    rfl
  · obtain ⟨p, A, n, hs, r, ps, ln, t, hd, rm, pr, rfl, R, ht, z1, z2, z3, z4, k⟩ := h
    refine ⟨_, pss_cons (ps_expr (pe_bm PySem.F.plainAttrs_list PySem.F.slot_list_append PySem.F.type_list_append mt_append (pe_ix ix_list (pe_fld (pv 0) rfl) (pv 1) (fun _ _ => rfl)) (pa_cons (pe_callB call_len_seq (by rfl) B.len PySem.boot_len (pa_cons (pe_fld (pv 0) rfl) pa_nil)) pa_nil)))
      (pss_cons (ps_expr (pe_bm PySem.F.plainAttrs_list PySem.F.slot_list_append PySem.F.type_list_append mt_append (pe_fld (pv 0) rfl) (pa_cons (pv 2) pa_nil)))
      (pss_cons (ps_expr (pe_bm PySem.F.plainAttrs_list PySem.F.slot_list_append PySem.F.type_list_append mt_append (pe_fld (pv 0) rfl) (pa_cons (pv 3) pa_nil)))
      (pss_one (ps_expr (pe_bm PySem.F.plainAttrs_list PySem.F.slot_list_append PySem.F.type_list_append mt_append (pe_fld (pv 0) rfl) (pa_cons (pv 4) pa_nil)))))), ?_⟩
    obtain ⟨la, hla⟩ : ∃ la, A.ls[t]? = some la := ⟨_, List.getElem?_eq_getElem (by rw [R.lsl]; exact ht)⟩
    have ml := List.mem_of_getElem? hla
    have nd := R.nd
    simp only [List.nodup_cons, List.mem_cons, not_or] at nd
    obtain ⟨⟨a1, a2, a3, a4, a5⟩, ⟨b1, b2, b3, b4⟩, ⟨c1, c2, c3⟩, ⟨d1, d2⟩, e1, e2⟩ := nd
    have n1 : ∀ {x : Addr}, x ∉ A.ls → x ≠ la := fun h q => h (q ▸ ml)
    refine ⟨_, rfl, p, C, A.dx, _, _, rfl, R.obj, T.cl, T.nLanes, rf_lanes, _, rfl, A.ll, _, _, _, rfl, rfl, SqL.of R.lanes, at_of (j := t) (v := V.ref la) rfl (by rw [List.getElem?_map, hla]; rfl), tyL (R.lane t la hla), _, rfl, p, C, A.dx, _, _, rfl, R.obj, T.cl, T.nHeads, rf_heads, A.lh, _, rfl, .inl (SqL.of R.heads), la, _, _, rfl, rfl, R.lane t la hla, (by simpa [nN] using z4), ?_⟩
    have el : ((nI hs).length : Int) = ((hs.length : Nat) : Int) := by simp [nI]
    rw [el, nN_snoc]
    generalize eH1 : upd H la (.lst (nN (ln t ++ [hs.length]))) = H1
    have u1 : ∀ x, x ≠ la → H1 x = H x := fun x hx => by rw [← eH1, upd_ne hx]
    have o1 : H1 p = some (.ins C A.dx (rf n A.lh A.lr A.lp A.ll)) := by rw [u1 p (n1 a5)]; exact R.obj
    have o2 : H1 A.lh = some (.lst (nI hs)) := by rw [u1 _ (n1 b4)]; exact R.heads
    refine ⟨_, rfl, p, C, A.dx, _, _, rfl, o1, T.cl, T.nHeads, rf_heads, tyL o2, _, rfl, A.lh, _, _, rfl, rfl, o2, (by simpa [nI] using z1), ?_⟩
    rw [nI_snoc]
    generalize eH2 : upd H1 A.lh (.lst (nI (hs ++ [hd]))) = H2
    have u2 : ∀ x, x ≠ A.lh → H2 x = H1 x := fun x hx => by rw [← eH2, upd_ne hx]
    have p1 : H2 p = some (.ins C A.dx (rf n A.lh A.lr A.lp A.ll)) := by rw [u2 p a1]; exact o1
    have p2 : H2 A.lr = some (.lst (nI r)) := by rw [u2 _ (Ne.symm b1), u1 _ (n1 c3)]; exact R.room
    refine ⟨_, rfl, p, C, A.dx, _, _, rfl, p1, T.cl, T.nRoom, rf_room, tyL p2, _, rfl, A.lr, _, _, rfl, rfl, p2, (by simpa [nI] using z2), ?_⟩
    rw [nI_snoc]
    generalize eH3 : upd H2 A.lr (.lst (nI (r ++ [rm]))) = H3
    have u3 : ∀ x, x ≠ A.lr → H3 x = H2 x := fun x hx => by rw [← eH3, upd_ne hx]
    have q1 : H3 p = some (.ins C A.dx (rf n A.lh A.lr A.lp A.ll)) := by rw [u3 p a2]; exact p1
    have q2 : H3 A.lp = some (.lst (nI ps)) := by rw [u3 _ (Ne.symm c1), u2 _ (Ne.symm b2), u1 _ (n1 d2)]; exact R.prices
    refine ⟨_, rfl, p, C, A.dx, _, _, rfl, q1, T.cl, T.nPrices, rf_prices, tyL q2, _, rfl, A.lp, _, _, rfl, rfl, q2, (by simpa [nI] using z3), ?_⟩
    rw [nI_snoc]
    generalize eH4 : upd H3 A.lp (.lst (nI (ps ++ [pr]))) = H4
    have u4 : ∀ x, x ≠ A.lp → H4 x = H3 x := fun x hx => by rw [← eH4, upd_ne hx]
    refine k H4 ⟨?_, ?_, ?_, ?_, ?_, R.lsl, fun v a e => ?_, R.nd⟩ (fun b o e nb => ?_)
    · rw [u4 p a3]; exact q1
    · rw [u4 _ b2, u3 _ b1, ← eH2]; exact upd_same
    · rw [u4 _ c1, ← eH3]; exact upd_same
    · rw [← eH4]; exact upd_same
    · rw [u4 _ (Ne.symm d1), u3 _ (Ne.symm c2), u2 _ (Ne.symm b3), u1 _ (n1 e1)]; exact R.lanes
    · have ma := List.mem_of_getElem? e
      have n2 : ∀ {x : Addr}, x ∉ A.ls → a ≠ x := fun h q => h (q ▸ ma)
      rw [u4 _ (n2 d2), u3 _ (n2 c3), u2 _ (n2 b4)]
      by_cases hv : v = t
      · subst hv
        have : a = la := Option.some.inj (e.symm.trans hla)
        subst this
        rw [← eH1, upd_same, if_pos rfl]
      · rw [u1 _ (fun q => hv (nd_ix e2 e (by rw [q]; exact hla))), if_neg hv]
        exact R.lane v a e
    · simp only [List.mem_cons, not_or] at nb
      obtain ⟨m1, m2, m3, m4⟩ := nb
      rw [u4 b m3, u3 b m2, u2 b m1, u1 b (fun q => m4 (q ▸ ml))]; exact e
end
end Px
set_option Elab.async false
set_option linter.all false
set_option maxRecDepth 100000
set_option maxHeartbeats 2000000
namespace Px
open PySem PySem.Spec PyProof.Rows L2
open Sw14 (Pipe)
/-! ### pipes -/
def pT (x : Pipe) : List V := [.int x.a, .int x.b, .int x.holds, .int x.cost]
structure PipesAt (H : Hp) (q : Addr) (L : List Pipe) (ps : List Addr) : Prop where
  lst : H q = some (.lst (ps.map V.ref))
  len : ps.length = L.length
  tup : ∀ (i : Nat) (a : Addr) (x : Pipe), ps[i]? = some a → L[i]? = some x → H a = some (.tup (pT x))
theorem PipesAt.keep {H H' : Hp} {q : Addr} {L : List Pipe} {ps : List Addr} (B : PipesAt H q L ps) {W : List Addr} (k : Kp W H H') (h1 : q ∉ W) (h2 : ∀ a, a ∈ W → ∀ xs, H a ≠ some (.tup xs)) : PipesAt H' q L ps :=
  ⟨k _ _ B.lst h1, B.len, fun i a x e1 e2 => k _ _ (B.tup i a x e1 e2) fun m => h2 a m _ (B.tup i a x e1 e2)⟩
/-! ### the lists while the lanes are laid -/
def hsK (N : Pn.FN) (k : Nat) : List Int := (List.range (2 * k)).map fun j => (Pn.hd N j : Int)
def psK (N : Pn.FN) (k : Nat) : List Int := (List.range (2 * k)).map fun j => Pn.pr N j
def lnK (N : Pn.FN) (k : Nat) (v : Nat) : List Nat := (List.range (2 * k)).filter fun j => decide (Pn.tl N j = v)
theorem range_two (k : Nat) : List.range (2 * (k + 1)) = List.range (2 * k) ++ [2 * k] ++ [2 * k + 1] := by
  rw [show 2 * (k + 1) = 2 * k + 1 + 1 by omega, List.range_succ, List.range_succ]
theorem hd_even (N : Pn.FN) (k : Nat) : Pn.hd N (2 * k) = N.b k := by unfold Pn.hd; rw [if_pos (by omega), show 2 * k / 2 = k by omega]
theorem hd_odd (N : Pn.FN) (k : Nat) : Pn.hd N (2 * k + 1) = N.a k := by unfold Pn.hd; rw [if_neg (by omega), show (2 * k + 1) / 2 = k by omega]
theorem tl_even (N : Pn.FN) (k : Nat) : Pn.tl N (2 * k) = N.a k := by unfold Pn.tl; rw [if_pos (by omega), show 2 * k / 2 = k by omega]
theorem tl_odd (N : Pn.FN) (k : Nat) : Pn.tl N (2 * k + 1) = N.b k := by unfold Pn.tl; rw [if_neg (by omega), show (2 * k + 1) / 2 = k by omega]
theorem pr_even (N : Pn.FN) (k : Nat) : Pn.pr N (2 * k) = N.c k := by unfold Pn.pr; rw [if_pos (by omega), show 2 * k / 2 = k by omega]
theorem pr_odd (N : Pn.FN) (k : Nat) : Pn.pr N (2 * k + 1) = -N.c k := by unfold Pn.pr; rw [if_neg (by omega), show (2 * k + 1) / 2 = k by omega]
theorem hsK_succ (N : Pn.FN) (k : Nat) : hsK N (k + 1) = hsK N k ++ [(N.b k : Int)] ++ [(N.a k : Int)] := by
  unfold hsK; rw [range_two, List.map_append, List.map_append]; simp [hd_even, hd_odd]
theorem psK_succ (N : Pn.FN) (k : Nat) : psK N (k + 1) = psK N k ++ [N.c k] ++ [-N.c k] := by
  unfold psK; rw [range_two, List.map_append, List.map_append]; simp [pr_even, pr_odd]
theorem lnK_succ (N : Pn.FN) (k v : Nat) : lnK N (k + 1) v = (let l := if v = N.a k then lnK N k v ++ [2 * k] else lnK N k v; if v = N.b k then l ++ [2 * k + 1] else l) := by
  unfold lnK
  rw [range_two, List.filter_append, List.filter_append]
  have e : ∀ (x y : Nat), [y].filter (fun j => decide (Pn.tl N j = v)) = if v = Pn.tl N y then [y] else [] := fun x y => by
    by_cases h : v = Pn.tl N y
    · rw [if_pos h, List.filter_cons, if_pos (decide_eq_true h.symm)]; rfl
    · rw [if_neg h, List.filter_cons, if_neg (by rw [decide_eq_true_eq]; exact fun q => h q.symm)]; rfl
  rw [e 0, e 0, tl_even, tl_odd]
  dsimp only
  by_cases h1 : v = N.a k
  · rw [if_pos h1, if_pos h1]
    by_cases h2 : v = N.b k
    · rw [if_pos h2, if_pos h2]
    · rw [if_neg h2, if_neg h2, List.append_nil]
  · rw [if_neg h1, if_neg h1, List.append_nil]
    by_cases h2 : v = N.b k
    · rw [if_pos h2, if_pos h2]
    · rw [if_neg h2, if_neg h2, List.append_nil]
theorem hsK_len (N : Pn.FN) (k : Nat) : (hsK N k).length = 2 * k := by simp [hsK]
theorem psK_len (N : Pn.FN) (k : Nat) : (psK N k).length = 2 * k := by simp [psK]
theorem lnK_le (N : Pn.FN) (k v : Nat) : (lnK N k v).length ≤ 2 * k := by
  unfold lnK
  have := List.length_filter_le (fun j => decide (Pn.tl N j = v)) (List.range (2 * k))
  rw [List.length_range] at this
  exact this
end Px
set_option Elab.async false
set_option linter.all false
set_option maxRecDepth 100000
set_option maxHeartbeats 2000000
namespace Px
open PySem PySem.Spec PyProof.Rows L2
open Sw14 (Pipe Net Right)
/-! ### Rooms.__init__ -/
def RA.all (A : RA) : List Addr := A.lh :: A.lr :: A.lp :: A.ll :: A.ls
def spRooI (C : Addr) : Sp := fun vs H Q _ => ∃ (p dx q : Addr) (n : Net) (ps : List Addr), vs = [.ref p, .int n.places, .ref q] ∧ H p = some (.ins C dx []) ∧ PipesAt H q n.pipes ps ∧ Right n ∧ n.places ≤ 256 ∧ n.pipes.length ≤ 4096 ∧
  ∀ (H' : Hp) (A : RA), RoomsAt C H' p (Pn.fn n) A (Pn.room0 (Pn.fn n) (Pn.fn n).m) → Kp [p] H H' → (∀ b, b ∈ A.all → H b = none) → Q .non H'
theorem scRooI : FnScope ["self", "places", "pipes", "pipe", "place"] ["self", "places", "pipes"] (defScope sRooI) := ⟨rfl, rfl, rfl, by decide +kernel, rfl, by decide +kernel, by decide +kernel⟩
theorem RA.sub {p : Addr} (A : RA) : ∀ b, b ∈ A.lh :: A.lr :: A.lp :: A.ls → b ∈ p :: A.all := fun b hb => by
  simp only [RA.all, List.mem_cons] at hb ⊢
  rcases hb with z | z | z | z
  · exact .inr (.inl z)
  · exact .inr (.inr (.inl z))
  · exact .inr (.inr (.inr (.inl z)))
  · exact .inr (.inr (.inr (.inr (.inr z))))
section
variable {P : Program} {w : World} {K : PySem.W.Frag} {mg : Str → Option Value} {base : Heap}
theorem Kp.two {W : List Addr} {H H1 : Hp} {a : Addr} (k : Kp W H H1) (hW : ∀ b, b ∈ W → H1 b ≠ none) (h : H1 a = none) : H a = none ∧ a ∉ W := by
  have n : a ∉ W := fun m => hW a m h
  exact ⟨k.free h n, n⟩
theorem ok_rooI {f C : Addr} {fd : FuncData} (F : Fun K "__init__" "Rooms.__init__" sRooI f fd) (T : TRoo K C) (B : TB mg) (GA : MF P w K mg base CX0 1 C "add_lane" ["self", "tail", "head", "room", "price"] (spAddL C)) :
    FnOk P w K mg base CX0 2 f fd ["self", "places", "pipes"] (spRooI C) := by
  obtain ⟨fA, fdA, GA, bA, mA⟩ := GA
  refine F.ok scRooI (fun vs H Q E h => ?_) (fun cdv A outer s H vs Q E hr h => ?_)
  · obtain ⟨p, dx, q, n, ps, rfl, _⟩ := h
    rfl
  · obtain ⟨p, dx, q, n, ps, rfl, hp, PA0, rt, hn, hm, k⟩ := h
    refine ⟨_, pss_cons (ps_fld (pv 0) (pv 1) rfl) (pss_cons (ps_fld (pv 0) (pe_lst pa_nil) rfl) (pss_cons (ps_fld (pv 0) (pe_lst pa_nil) rfl) (pss_cons (ps_fld (pv 0) (pe_lst pa_nil) rfl)
      (pss_cons (ps_fld (pv 0) (pe_lc (own := [("place", 4)]) rfl scRooI.nd (pi_range1 rfl B.range (pa_cons (pv 1) pa_nil)) (blkOk_by (by rfl)) (fun _ _ _ _ _ => pg_name (i := 4) scRooI.nd rfl (Or.inl rfl)) (fun _ _ _ _ _ => pts_nil) (fun _ _ _ _ _ => pe_lst pa_nil)) rfl)
      (pss_one (ps_for PassesOwn.never rfl (pi_list (pv 2)) (pg_name (i := 3) scRooI.nd rfl (Or.inl rfl))
        (pss_cons (ps_expr (pe_meth (pv 0) T.cl mA GA hr bA .nil pass0 (pa_cons (pe_ix ix_tup (pv 3) pe_int (fun _ _ => rfl)) (pa_cons (pe_ix ix_tup (pv 3) pe_int (fun _ _ => rfl)) (pa_cons (pe_ix ix_tup (pv 3) pe_int (fun _ _ => rfl)) (pa_cons (pe_ix ix_tup (pv 3) pe_int (fun _ _ => rfl)) pa_nil))))))
          (pss_one (ps_expr (pe_meth (pv 0) T.cl mA GA hr bA .nil pass0 (pa_cons (pe_ix ix_tup (pv 3) pe_int (fun _ _ => rfl)) (pa_cons (pe_ix ix_tup (pv 3) pe_int (fun _ _ => rfl)) (pa_cons pe_int (pa_cons (pe_un un_neg (pe_ix ix_tup (pv 3) pe_int (fun _ _ => rfl))) pa_nil)))))))))))))), ?_⟩
    refine ⟨_, rfl, _, rfl, p, C, dx, _, rfl, hp, T.cl, T.nPlaces, (by decide), ?_⟩
    generalize e1 : upd H p (.ins C dx (putF "places" (.int n.places) [])) = H1
    have k1 : Kp [p] H H1 := by rw [← e1]; exact (Kp.refl H).upd (by simp)
    have p1 : H1 p = some (.ins C dx (putF "places" (.int n.places) [])) := by rw [← e1]; exact upd_same
    refine ⟨Nat.zero_le _, fun lh hlh => ⟨_, rfl, p, C, dx, _, rfl, (by rw [upd_ne (ne_of_none p1 hlh)]; exact p1), T.cl, T.nHeads, (by show 1 < 1000; decide), ?_⟩⟩
    obtain ⟨f1, g1⟩ := k1.two (by simp [p1]) hlh
    generalize e3 : upd (upd H1 lh (.lst [])) p _ = H3
    have k3 : Kp [p] H H3 := by rw [← e3]; exact (k1.new hlh).upd (by simp)
    have p3 : H3 p = some (.ins C dx (putF "heads" (.ref lh) (putF "places" (.int n.places) []))) := by rw [← e3]; exact upd_same
    have q3 : H3 lh = some (.lst []) := by rw [← e3, upd_ne (by simpa using g1)]; exact upd_same
    refine ⟨Nat.zero_le _, fun lr hlr => ⟨_, rfl, p, C, dx, _, rfl, (by rw [upd_ne (ne_of_none p3 hlr)]; exact p3), T.cl, T.nRoom, (by show 2 < 1000; decide), ?_⟩⟩
    obtain ⟨f2, g2⟩ := k3.two (by simp [p3]) hlr
    have d1 := ne_of_none q3 hlr
    generalize e5 : upd (upd H3 lr (.lst [])) p _ = H5
    have k5 : Kp [p] H H5 := by rw [← e5]; exact (k3.new hlr).upd (by simp)
    have p5 : H5 p = some (.ins C dx (putF "room" (.ref lr) (putF "heads" (.ref lh) (putF "places" (.int n.places) [])))) := by rw [← e5]; exact upd_same
    have q5 : H5 lh = some (.lst []) := by rw [← e5, upd_ne (by simpa using g1), upd_ne d1]; exact q3
    have r5 : H5 lr = some (.lst []) := by rw [← e5, upd_ne (by simpa using g2)]; exact upd_same
    refine ⟨Nat.zero_le _, fun lp hlp => ⟨_, rfl, p, C, dx, _, rfl, (by rw [upd_ne (ne_of_none p5 hlp)]; exact p5), T.cl, T.nPrices, (by show 3 < 1000; decide), ?_⟩⟩
    obtain ⟨f3, g3⟩ := k5.two (by simp [p5]) hlp
    have d2 := ne_of_none q5 hlp
    have d3 := ne_of_none r5 hlp
    generalize e7 : upd (upd H5 lp (.lst [])) p _ = H7
    have k7 : Kp [p] H H7 := by rw [← e7]; exact (k5.new hlp).upd (by simp)
    have p7 : H7 p = some (.ins C dx (putF "prices" (.ref lp) (putF "room" (.ref lr) (putF "heads" (.ref lh) (putF "places" (.int n.places) []))))) := by rw [← e7]; exact upd_same
    have q7 : H7 lh = some (.lst []) := by rw [← e7, upd_ne (by simpa using g1), upd_ne d2]; exact q5
    have r7 : H7 lr = some (.lst []) := by rw [← e7, upd_ne (by simpa using g2), upd_ne d3]; exact r5
    have s7 : H7 lp = some (.lst []) := by rw [← e7, upd_ne (by simpa using g3)]; exact upd_same
    -- the lanes
    refine ⟨_, rfl, _, rfl, by omega, by omega, fun ll hll => lc_range (n := n.places) (fun i H' => ∃ ls : List Addr, ls.length = i ∧ H' ll = some (.lst (ls.map V.ref)) ∧ (∀ a, a ∈ ls → H' a = some (.lst []) ∧ H7 a = none ∧ a ≠ ll) ∧ ls.Nodup ∧ Same H7 H')
      ⟨[], rfl, upd_same, fun a h => (by cases h), List.nodup_nil, fun b o e => by rw [upd_ne (ne_of_none e hll)]; exact e⟩ ?_ ?_⟩
    · rintro i H' hi ⟨ls, h1, h2, h3, h4, h5⟩
      refine ⟨rfl, tY ?_⟩
      refine ⟨Nat.zero_le _, fun a ha => ⟨_, by rw [upd_ne (ne_of_none h2 ha)]; exact h2, by rw [List.length_map, h1, sizeLine_eq]; omega, ls ++ [a], by simp [h1], by rw [upd_same, List.map_append]; rfl, fun b hb => ?_, nd_snoc h4 fun m => ?_, fun b o e => ?_⟩⟩
      · have al : a ≠ ll := Ne.symm (ne_of_none h2 ha)
        rcases List.mem_append.mp hb with m | m
        · obtain ⟨x1, x2, x3⟩ := h3 b m
          rw [upd_ne x3, upd_ne (ne_of_none x1 ha)]
          exact ⟨x1, x2, x3⟩
        · have z : b = a := by simpa using m
          subst z
          rw [upd_ne al]
          exact ⟨upd_same, h5.free ha, al⟩
      · rw [(h3 a m).1] at ha; cases ha
      · have z := h5 b o e
        rw [upd_ne (ne_of_none e hll), upd_ne (ne_of_none z ha)]; exact z
    · rintro H8 ⟨ls, h1, h2, h3, h4, h5⟩
      have p8 := h5 _ _ p7
      refine ⟨_, rfl, p, C, dx, _, rfl, p8, T.cl, T.nLanes, (by show 4 < 1000; decide), ?_⟩
      generalize e9 : upd H8 p _ = H9
      have k8 : Kp [p] H H8 := fun b o e nb => h5 b o (k7 b o e nb)
      have k9 : Kp [p] H H9 := by rw [← e9]; exact k8.upd (by simp)
      have u9 : ∀ x, x ≠ p → H9 x = H8 x := fun x hx => by rw [← e9, upd_ne hx]
      obtain ⟨f4, g4⟩ := k7.two (by simp [p7]) hll
      have fl : ∀ a, a ∈ ls → H a = none ∧ a ≠ p := fun a ha => by
        obtain ⟨z1, z2⟩ := k7.two (by simp [p7]) (h3 a ha).2.1
        exact ⟨z1, by simpa using z2⟩
      have R0 : Raw C H9 p ⟨dx, lh, lr, lp, ll, ls⟩ n.places (hsK (Pn.fn n) 0) (Pn.room0 (Pn.fn n) 0) (psK (Pn.fn n) 0) (lnK (Pn.fn n) 0) := by
        refine ⟨by rw [← e9]; exact upd_same, ?_, ?_, ?_, ?_, h1, fun v a e => ?_, ?_⟩
        · rw [u9 _ (by simpa using g1)]; exact h5 _ _ q7
        · rw [u9 _ (by simpa using g2)]; exact h5 _ _ r7
        · rw [u9 _ (by simpa using g3)]; exact h5 _ _ s7
        · rw [u9 _ (by simpa using g4)]; exact h2
        · have ma := List.mem_of_getElem? e
          rw [u9 _ (fl a ma).2]; exact (h3 a ma).1
        · have nl : ∀ x, H7 x ≠ none → x ∉ ls := fun x hx m => hx (h3 x m).2.1
          have nll := ne_of_none q7 hll
          have nlr := ne_of_none r7 hll
          have nlp := ne_of_none s7 hll
          have npl := ne_of_none p7 hll
          simp only [List.nodup_cons, List.mem_cons, not_or]
          exact ⟨⟨fun z => g1 (by simp [← z]), fun z => g2 (by simp [← z]), fun z => g3 (by simp [← z]), npl, nl p (by simp [p7])⟩, ⟨d1, d2, nll, nl lh (by simp [q7])⟩, ⟨d3, nlr, nl lr (by simp [r7])⟩, ⟨nlp, nl lp (by simp [s7])⟩, fun m => (h3 ll m).2.2 rfl, h4⟩
      have fA : ∀ b, b ∈ (RA.mk dx lh lr lp ll ls).all → H b = none := fun b hb => by
        simp only [RA.all, List.mem_cons] at hb
        rcases hb with z | z | z | z | z
        · rw [z]; exact f1
        · rw [z]; exact f2
        · rw [z]; exact f3
        · rw [z]; exact f4
        · exact (fl b z).1
      generalize eA : RA.mk dx lh lr lp ll ls = AA at R0 fA
      -- the pipes
      have kq : ∀ H', Kp (p :: AA.all) H H' → PipesAt H' q n.pipes ps := fun H' kk => PA0.keep kk (fun m => ?_) (fun a m xs e => ?_)
      · refine ⟨_, rfl, q, rfl, ⟨_, SqL.of (kq H9 (k9.mono (by simp))).lst⟩, for_list (K := K) (a := q) (xs := ps.map V.ref) (fun i σ H' => ∃ v : Option V, σ = [some (.ref p), some (.int n.places), some (.ref q), v, none] ∧ Raw C H' p AA n.places (hsK (Pn.fn n) i) (Pn.room0 (Pn.fn n) i) (psK (Pn.fn n) i) (lnK (Pn.fn n) i) ∧ Kp (p :: AA.all) H H')
          ⟨none, rfl, R0, k9.mono (by simp)⟩ (fun i σ H' _ ⟨_, _, _, kk⟩ => SqL.of (kq H' kk).lst) ?_ ?_⟩
        · rintro i y σ H' hi ⟨v, rfl, R1, kk⟩
          obtain ⟨a, ha, rfl⟩ : ∃ a, ps[i]? = some a ∧ y = V.ref a := by
            rw [List.getElem?_map] at hi
            cases e : ps[i]? with
            | none => rw [e] at hi; cases hi
            | some z => rw [e] at hi; exact ⟨z, rfl, (Option.some.inj hi).symm⟩
          have hip : i < n.pipes.length := by rw [← PA0.len]; exact (List.getElem?_eq_some_iff.mp ha).1
          have hx : n.pipes[i]? = some (Pn.pp n i) := by
            rw [List.getElem?_eq_getElem hip, Pn.pp_of (List.getElem?_eq_getElem hip)]
          have tp : ∀ {H''}, Kp (p :: AA.all) H H'' → H'' a = some (.tup (pT (Pn.pp n i))) := fun kk => (kq _ kk).tup i a _ ha hx
          obtain ⟨ra, rb⟩ := rt _ (List.mem_of_getElem? hx)
          have tp1 := tp kk
          have lw : (2 * i + 2) < sizeLine := by rw [sizeLine_eq]; omega
          have rl : (Pn.room0 (Pn.fn n) i).length = 2 * i := Pn.room0_len i
          refine ⟨_, rfl, p, AA.dx, _, rfl, R1.obj, by rfl, ?_⟩
          refine ⟨_, rfl, a, _, _, _, rfl, rfl, SqT.of tp1, at_of (j := 0) rfl rfl, _, rfl, a, _, _, _, rfl, rfl, SqT.of tp1, at_of (j := 1) rfl rfl, _, rfl, a, _, _, _, rfl, rfl, SqT.of tp1, at_of (j := 2) rfl rfl, _, rfl, a, _, _, _, rfl, rfl, SqT.of tp1, at_of (j := 3) rfl rfl, ?_⟩
          refine ⟨p, AA, n.places, _, _, _, _, (Pn.pp n i).a, _, _, _, rfl, R1, ra, by rw [hsK_len]; omega, by rw [rl]; omega, by rw [psK_len]; omega, Nat.lt_of_le_of_lt (lnK_le _ _ _) (by omega), fun H2 R2 kp2 => ?_⟩
          have kk2 : Kp (p :: AA.all) H H2 := kk.trans (kp2.mono AA.sub)
          have tp2 := tp kk2
          refine ⟨_, rfl, p, AA.dx, _, rfl, R2.obj, by rfl, ?_⟩
          refine ⟨_, rfl, a, _, _, _, rfl, rfl, SqT.of tp2, at_of (j := 1) rfl rfl, _, rfl, a, _, _, _, rfl, rfl, SqT.of tp2, at_of (j := 0) rfl rfl, _, rfl, a, _, _, _, rfl, rfl, SqT.of tp2, at_of (j := 3) rfl rfl, _, rfl, ?_⟩
          refine ⟨p, AA, n.places, _, _, _, _, (Pn.pp n i).b, _, _, _, rfl, R2, rb, by rw [List.length_append, hsK_len]; simp; omega, by rw [List.length_append, rl]; simp; omega, by rw [List.length_append, psK_len]; simp; omega, ?_, fun H3 R3 kp3 => ?_⟩
          · have := lnK_le (Pn.fn n) i (Pn.pp n i).b
            split
            · rw [List.length_append]; simp; omega
            · omega
          · refine ⟨_, rfl, ?_, kk2.trans (kp3.mono AA.sub)⟩
            have e1 : hsK (Pn.fn n) (i + 1) = hsK (Pn.fn n) i ++ [((Pn.pp n i).b : Int)] ++ [((Pn.pp n i).a : Int)] := hsK_succ _ _
            have e2 : psK (Pn.fn n) (i + 1) = psK (Pn.fn n) i ++ [((Pn.pp n i).cost : Int)] ++ [-((Pn.pp n i).cost : Int)] := psK_succ _ _
            have e3 : Pn.room0 (Pn.fn n) (i + 1) = Pn.room0 (Pn.fn n) i ++ [((Pn.pp n i).holds : Int)] ++ [0] := by
              show Pn.room0 (Pn.fn n) i ++ [((Pn.pp n i).holds : Int), 0] = _
              rw [List.append_assoc]; rfl
            have e4 : lnK (Pn.fn n) (i + 1) = fun v => if v = (Pn.pp n i).b then (if v = (Pn.pp n i).a then lnK (Pn.fn n) i v ++ [(hsK (Pn.fn n) i).length] else lnK (Pn.fn n) i v) ++ [(hsK (Pn.fn n) i ++ [((Pn.pp n i).b : Int)]).length] else (if v = (Pn.pp n i).a then lnK (Pn.fn n) i v ++ [(hsK (Pn.fn n) i).length] else lnK (Pn.fn n) i v) := by
              funext v
              rw [lnK_succ, List.length_append, hsK_len]
              rfl
            rw [e1, e2, e3, e4]
            exact R3
        · rintro σ H' ⟨v, rfl, R1, kk⟩
          rw [List.length_map, PA0.len] at R1
          refine k H' AA R1 (fun b o e nb => kk b o e fun m => ?_) fA
          rcases List.mem_cons.mp m with z | z
          · exact nb (by simp [z])
          · rw [fA b z] at e; cases e
      · rcases List.mem_cons.mp m with z | z
        · have := PA0.lst; rw [z, hp] at this; cases this
        · have := PA0.lst; rw [fA _ z] at this; cases this
      · rcases List.mem_cons.mp m with z | z
        · rw [z, hp] at e; cases e
        · rw [fA _ z] at e; cases e
end
end Px
set_option Elab.async false
set_option linter.all false
set_option maxRecDepth 100000
set_option maxHeartbeats 2000000
namespace Px
open PySem PySem.Spec PyProof.Rows L2
/-! ### Rooms.steps -/
def spSteps (C : Addr) : Sp := fun vs H Q _ => ∃ (p : Addr) (N : Pn.FN) (A : RA) (r : List Int) (s o : Nat), vs = [.ref p, .int s, .int o] ∧ RoomsAt C H p N A r ∧ r.length = 2 * N.m ∧ N.Good ∧ N.n ≤ 256 ∧ s < N.n ∧ (o = 0 ∨ o = 1) ∧
  ∀ (H' : Hp) (l : Addr) (f : List Int), Pn.Steps N r o s f → H' l = some (.lst (nI f)) → H l = none → Same H H' → Q (.ref l) H'
theorem scSteps : FnScope ["self", "start", "other", "found", "row", "at", "place", "lane", "head"] ["self", "start", "other"] (defScope sSteps) := ⟨rfl, rfl, rfl, by decide +kernel, rfl, by decide +kernel, by decide +kernel⟩
section
variable {P : Program} {w : World} {K : PySem.W.Frag} {mg : Str → Option Value} {base : Heap}
theorem xorO {o : Nat} (ho : o = 0 ∨ o = 1) (j : Nat) : Builtin.bitXor (j : Int) (o : Int) = ((if o = 0 then j else Pn.ot j : Nat) : Int) := by
  rcases ho with h | h
  · subst h; exact xor0 j
  · subst h; exact xor1 j
theorem Raw.same {C : Addr} {H H' : Hp} {p : Addr} {A : RA} {n : Nat} {hs r ps : List Int} {ln : Nat → List Nat} (R : Raw C H p A n hs r ps ln) (k : Same H H') : Raw C H' p A n hs r ps ln := R.keep fun b o e _ => k b o e
theorem rep_one (k : Nat) (v : V) : (List.replicate k [v]).flatten = List.replicate k v := by
  induction k with
  | zero => rfl
  | succ k ih => rw [List.replicate_succ, List.flatten_cons, ih, List.replicate_succ]; rfl
theorem rep_int (k : Nat) (z : Int) : List.replicate k (V.int z) = nI (List.replicate k z) := by unfold nI; rw [List.map_replicate]
theorem nN_at' {l : List Nat} {i : Nat} {x : V} (h : (nN l)[i]? = some x) : ∃ j, l[i]? = some j ∧ x = V.int (j : Int) := by
  rw [List.getElem?_map] at h
  cases e : l[i]? with
  | none => rw [e] at h; cases h
  | some z => rw [e] at h; exact ⟨z, rfl, (Option.some.inj h).symm⟩
theorem ok_steps {f C : Addr} {fd : FuncData} (F : Fun K "steps" "Rooms.steps" sSteps f fd) (T : TRoo K C) (B : TB mg) : FnOk P w K mg base CX0 1 f fd ["self", "start", "other"] (spSteps C) := by
  refine F.ok scSteps (fun vs H Q E h => ?_) (fun cdv A outer s H vs Q E hr h => ?_)
  · obtain ⟨p, N, A, r, s, o, rfl, _⟩ := h
    rfl
  · obtain ⟨p, N, A, r, s, o, rfl, R, hrl, gd, hn, hs, ho, k⟩ := h
    have nd := scSteps.nd
    refine ⟨_, pss_cons (ps_set (i := 3) nd rfl (Or.inl rfl) (pe_op op_rep (pe_lst (pa_cons (pe_un un_neg pe_int) pa_nil)) (pe_fld (pv 0) rfl)))
      (pss_cons (ps_asg pe_int (pg_sub (pv 3) (pv 1) set_list))
      (pss_cons (ps_set (i := 4) nd rfl (Or.inl rfl) (pe_lst (pa_cons (pv 1) pa_nil)))
      (pss_cons (ps_set (i := 5) nd rfl (Or.inl rfl) pe_int)
      (pss_cons (ps_while PassesOwn.never (pt_cmpR op_lt (pv 5) (pe_callB call_len_seq (by rfl) B.len PySem.boot_len (pa_cons (pv 4) pa_nil)) (nomark _))
        (pss_cons (ps_set (i := 6) nd rfl (Or.inl rfl) (pe_ix ix_list (pv 4) (pv 5) (fun _ _ => rfl)))
        (pss_cons (ps_aug (i := 5) nd rfl (Or.inl rfl) pe_int ip_add)
        (pss_one (ps_for PassesOwn.never rfl (pi_list (pe_ix ix_list (pe_fld (pv 0) rfl) (pv 6) (fun _ _ => rfl))) (pg_name (i := 7) nd rfl (Or.inl rfl))
          (pss_cons (ps_set (i := 8) nd rfl (Or.inl rfl) (pe_ix ix_list (pe_fld (pv 0) rfl) (pv 7) (fun _ _ => rfl)))
          (pss_one (ps_if (PW.pt (pw_and (pt_cmpR op_lt (pe_ix ix_list (pv 3) (pv 8) (fun _ _ => rfl)) pe_int (nomark _)) (pw_and1 (pt_cmpR op_gt (pe_ix ix_list (pe_fld (pv 0) rfl) (pe_op op_xor (pv 7) (pv 2)) (fun _ _ => rfl)) pe_int (nomark _)))))
            (pss_cons (ps_asg (pe_op op_add (pe_ix ix_list (pv 3) (pv 6) (fun _ _ => rfl)) pe_int) (pg_sub (pv 3) (pv 8) set_list))
            (pss_one (ps_expr (pe_bm PySem.F.plainAttrs_list PySem.F.slot_list_append PySem.F.type_list_append mt_append (pv 4) (pa_cons (pv 8) pa_nil)))))
            pss_nil))))))))
      (pss_one (ps_ret (pv 3))))))), ?_⟩
    -- found = [-1] * self.places
    refine ⟨_, rfl, (by decide), fun l0 hl0 => ?_⟩
    have s0 : Same H (upd H l0 (.lst [V.int (-1)])) := fun b ob e => by rw [upd_ne (ne_of_none e hl0)]; exact e
    refine ⟨_, rfl, p, C, A.dx, _, _, rfl, s0 _ _ R.obj, T.cl, T.nPlaces, rf_places, l0, _, _, rfl, rfl, upd_same, by omega, by omega, by simp [sizeLine_eq]; omega, fun lf hlf => ?_⟩
    have hf0 : H lf = none := s0.free hlf
    rw [show ((N.n : Nat) : Int).toNat = N.n from Int.toNat_natCast _, rep_one, rep_int]
    generalize e1 : upd (upd H l0 (.lst [V.int (-1)])) lf _ = H1
    have s1 : Same H H1 := fun b ob e => by rw [← e1, upd_ne (ne_of_none e hf0)]; exact s0 b ob e
    have f1 : H1 lf = some (.lst (nI (List.replicate N.n (-1)))) := by rw [← e1]; exact upd_same
    -- found[start] = 0
    refine ⟨_, rfl, _, rfl, lf, _, _, s, rfl, rfl, f1, ixN_nat rfl (by simpa [nI] using hs), ?_⟩
    rw [ints_set]
    generalize e2 : upd H1 lf _ = H2
    have s2 : Same H H2 := fun b ob e => by rw [← e2, upd_ne (ne_of_none e hf0)]; exact s1 b ob e
    have f2 : H2 lf = some (.lst (nI ((List.replicate N.n (-1)).set s 0))) := by rw [← e2]; exact upd_same
    -- row = [start]; at = 0
    refine ⟨_, rfl, (by show 1 ≤ sizeLine; decide), fun lw hlw => ?_⟩
    have hw0 : H lw = none := s2.free hlw
    have nfw : lf ≠ lw := ne_of_none f2 hlw
    generalize e3 : upd H2 lw _ = H3
    have s3 : Same H H3 := fun b ob e => by rw [← e3, upd_ne (ne_of_none e hw0)]; exact s2 b ob e
    have f3 : H3 lf = some (.lst (nI ((List.replicate N.n (-1)).set s 0))) := by rw [← e3, upd_ne nfw]; exact f2
    have w3 : H3 lw = some (.lst (nN [s])) := by rw [← e3]; exact upd_same
    -- while
    refine ⟨fun m σ H' => ∃ (v6 v7 v8 : Option V) (i : Nat) (fo : List Int) (row : List Nat), m = N.n - i ∧ i ≤ row.length ∧ σ = [some (.ref p), some (.int s), some (.int o), some (.ref lf), some (.ref lw), some (.int i), v6, v7, v8] ∧ Same H H' ∧ H' lf = some (.lst (nI fo)) ∧ H' lw = some (.lst (nN row)) ∧ Pn.Bfs N r o s fo row ∧
      ∀ (i' q : Nat), i' < i → row[i']? = some q → ∀ j, j ∈ Pn.lanesOf N q → Pn.opn r o j → Pn.hd N j ∈ row, ⟨_, none, none, none, 0, _, [s], rfl, Nat.zero_le _, rfl, s3, f3, w3, Pn.bfs_init hs, fun i' q h => (by omega)⟩, ?_⟩
    rintro m σ H' ⟨v6, v7, v8, i, fo, row, rfl, hi, rfl, sm, hf, hw, BF, cl⟩
    refine ⟨_, rfl, _, rfl, lw, _, rfl, .inl (SqL.of hw), _, _, rfl, rfl, _, rfl, ite2 (fun c => ?_) (fun c => ?_)⟩
    · have c := of_decide_eq_true c
      have hil : i < row.length := by simpa [nN] using c
      obtain ⟨q, hq⟩ : ∃ q, row[i]? = some q := ⟨_, List.getElem?_eq_getElem hil⟩
      have hqr := List.mem_of_getElem? hq
      have hqn := BF.lt q hqr
      have rn : row.length ≤ N.n := Pn.nodup_lt _ _ BF.nd BF.lt
      refine ⟨fun σ' H'' => ∃ m', m' < N.n - i ∧ ∃ (v6 v7 v8 : Option V) (i : Nat) (fo : List Int) (row : List Nat), m' = N.n - i ∧ i ≤ row.length ∧ σ' = [some (.ref p), some (.int s), some (.int o), some (.ref lf), some (.ref lw), some (.int i), v6, v7, v8] ∧ Same H H'' ∧ H'' lf = some (.lst (nI fo)) ∧ H'' lw = some (.lst (nN row)) ∧ Pn.Bfs N r o s fo row ∧
        ∀ (i' q : Nat), i' < i → row[i']? = some q → ∀ j, j ∈ Pn.lanesOf N q → Pn.opn r o j → Pn.hd N j ∈ row, fun _ _ z => z, ?_⟩
      refine ⟨_, rfl, _, rfl, lw, _, _, _, rfl, rfl, SqL.of hw, at_of (j := i) rfl (nats_at hq), ?_⟩
      refine ⟨_, rfl, _, _, rfl, rfl, ?_⟩
      have RR : ∀ {H''}, Same H H'' → RoomsAt C H'' p N A r := fun z => Raw.same R z
      obtain ⟨la, hla⟩ : ∃ la, A.ls[q]? = some la := ⟨_, List.getElem?_eq_getElem (by rw [R.lsl]; exact hqn)⟩
      refine ⟨_, rfl, p, C, A.dx, _, _, rfl, (RR sm).obj, T.cl, T.nLanes, rf_lanes, _, rfl, A.ll, _, _, _, rfl, rfl, SqL.of (RR sm).lanes, at_of (j := q) (v := V.ref la) rfl (by rw [List.getElem?_map, hla]; rfl), la, rfl, ⟨_, SqL.of ((RR sm).lane q la hla)⟩, ?_⟩
      refine for_list (K := K) (a := la) (xs := nN (Pn.lanesOf N q)) (fun y σ H' => ∃ (v7 v8 : Option V) (fo : List Int) (row : List Nat), σ = [some (.ref p), some (.int s), some (.int o), some (.ref lf), some (.ref lw), some (.int ((i : Int) + 1)), some (.int q), v7, v8] ∧ Same H H' ∧ H' lf = some (.lst (nI fo)) ∧ H' lw = some (.lst (nN row)) ∧ Pn.Bfs N r o s fo row ∧ row[i]? = some q ∧
        (∀ (i' q : Nat), i' < i → row[i']? = some q → ∀ j, j ∈ Pn.lanesOf N q → Pn.opn r o j → Pn.hd N j ∈ row) ∧ ∀ (y' j : Nat), y' < y → (Pn.lanesOf N q)[y']? = some j → Pn.opn r o j → Pn.hd N j ∈ row)
        ⟨_, _, fo, row, rfl, sm, hf, hw, BF, hq, cl, fun y' j h => (by omega)⟩ (fun y σ H'' _ ⟨_, _, _, _, _, z, _⟩ => SqL.of ((RR z).lane q la hla)) ?_ ?_
      · rintro y x σ H'' hx ⟨v7, v8, fo, row, rfl, sm, hf, hw, BF, hq, cl, cy⟩
        obtain ⟨j, hj, rfl⟩ := nN_at' hx
        obtain ⟨hj2, hjt⟩ := Pn.mem_lanes.mp (List.mem_of_getElem? hj)
        have hhd := Pn.hd_lt gd hj2
        have rn : row.length ≤ N.n := Pn.nodup_lt _ _ BF.nd BF.lt
        have R1 := RR sm
        refine ⟨_, rfl, p, C, A.dx, _, _, rfl, R1.obj, T.cl, T.nHeads, rf_heads, _, rfl, A.lh, _, _, _, rfl, rfl, SqL.of R1.heads, atI_ints (j := j) rfl (by rw [hdL_len]; exact hj2), ?_⟩
        rw [g_hdL hj2]
        refine ⟨_, rfl, _, rfl, lf, _, _, _, rfl, rfl, SqL.of hf, atI_ints (j := Pn.hd N j) rfl (by rw [BF.len]; exact hhd), _, _, rfl, rfl, _, rfl, ?_⟩
        have go : ∀ (H2 : Hp) (fo2 : List Int) (row2 : List Nat), Same H H2 → H2 lf = some (.lst (nI fo2)) → H2 lw = some (.lst (nN row2)) → Pn.Bfs N r o s fo2 row2 → (∀ z, z ∈ row → z ∈ row2) → (∀ i' z, row2[i']? = some z → i' ≤ i → row[i']? = some z) → row2[i]? = some q → (Pn.opn r o j → Pn.hd N j ∈ row2) →
            ∃ (v7 v8 : Option V) (fo : List Int) (row : List Nat), ([some (.ref p), some (.int s), some (.int o), some (.ref lf), some (.ref lw), some (.int ((i : Int) + 1)), some (.int q), some (.int j), some (.int (Pn.hd N j : Int))] : L2.St) = [some (.ref p), some (.int s), some (.int o), some (.ref lf), some (.ref lw), some (.int ((i : Int) + 1)), some (.int q), v7, v8] ∧ Same H H2 ∧ H2 lf = some (.lst (nI fo)) ∧ H2 lw = some (.lst (nN row)) ∧ Pn.Bfs N r o s fo row ∧ row[i]? = some q ∧
              (∀ (i' q : Nat), i' < i → row[i']? = some q → ∀ j, j ∈ Pn.lanesOf N q → Pn.opn r o j → Pn.hd N j ∈ row) ∧ ∀ (y' j : Nat), y' < y + 1 → (Pn.lanesOf N q)[y']? = some j → Pn.opn r o j → Pn.hd N j ∈ row := by
          intro H2 fo2 row2 z1 z2 z3 z4 z5 z6 z7 z8
          refine ⟨_, _, fo2, row2, rfl, z1, z2, z3, z4, z7, fun i' z hi' e j hj ho => z5 _ (cl i' z hi' (z6 i' z e (by omega)) j hj ho), fun y' j' hy e ho => ?_⟩
          by_cases hyy : y' < y
          · exact z5 _ (cy y' j' hyy e ho)
          · have : y' = y := by omega
            subst this
            have : j' = j := Option.some.inj (e.symm.trans hj)
            subst this
            exact z8 ho
        refine ite2 (fun c => ?_) (fun c => ?_)
        · have c := of_decide_eq_true c
          have hox : (if o = 0 then j else Pn.ot j) < 2 * N.m := by
            split
            · exact hj2
            · exact Pn.ot_lt hj2
          refine ⟨_, rfl, p, C, A.dx, _, _, rfl, R1.obj, T.cl, T.nRoom, rf_room, _, rfl, _, rfl, _, _, rfl, rfl, A.lr, _, _, _, rfl, rfl, SqL.of R1.room, atI_ints (xorO ho j) (by rw [hrl]; exact hox), _, _, rfl, rfl, _, rfl, ite2 (fun d => ?_) (fun d => ?_)⟩
          · have d := of_decide_eq_true d
            have tlr : Pn.tl N j ∈ row := by rw [hjt]; exact List.mem_of_getElem? hq
            have BF2 := Pn.bfs_add gd BF hj2 tlr d c
            rw [hjt] at BF2
            refine ⟨_, rfl, _, rfl, lf, _, _, _, rfl, rfl, SqL.of hf, atI_ints (j := q) rfl (by rw [BF.len]; exact hqn), _, _, rfl, rfl, _, rfl, _, rfl, lf, _, _, Pn.hd N j, rfl, rfl, hf, ixN_nat rfl (by simp [nI, BF.len]; exact hhd), ?_⟩
            rw [ints_set]
            have sa : Same H (upd H'' lf (.lst (nI (fo.set (Pn.hd N j) (Pn.g fo q + 1))))) := fun b ob e => by rw [upd_ne (ne_of_none e hf0)]; exact sm b ob e
            have wa : upd H'' lf (.lst (nI (fo.set (Pn.hd N j) (Pn.g fo q + 1)))) lw = some (.lst (nN row)) := by rw [upd_ne (Ne.symm nfw)]; exact hw
            refine ⟨_, rfl, tyL wa, _, rfl, lw, _, _, rfl, rfl, wa, by rw [List.length_map, sizeLine_eq]; omega, ?_⟩
            rw [nN_snoc]
            refine go _ _ _ (fun b ob e => by rw [upd_ne (ne_of_none e hw0)]; exact sa b ob e) (by rw [upd_ne nfw]; exact upd_same) upd_same BF2 (fun z hz => List.mem_append_left _ hz) (fun i' z e hi' => ?_) ?_ (fun _ => by simp)
            · have hl : i' < row.length := Nat.lt_of_le_of_lt hi' (List.getElem?_eq_some_iff.mp hq).1
              rw [List.getElem?_append_left hl] at e; exact e
            · rw [List.getElem?_append_left (List.getElem?_eq_some_iff.mp hq).1]; exact hq
          · refine go _ _ _ sm hf hw BF (fun z hz => hz) (fun i' z e _ => e) hq (fun ho' => absurd ?_ d)
            exact decide_eq_true ho'
        · refine go _ _ _ sm hf hw BF (fun z hz => hz) (fun i' z e _ => e) hq (fun _ => ?_)
          have c' : ¬ Pn.g fo (Pn.hd N j) < 0 := fun z => c (decide_eq_true z)
          by_cases hm : Pn.hd N j ∈ row
          · exact hm
          · have := BF.neg _ hhd hm; omega
      · rintro σ H'' ⟨v7, v8, fo, row, rfl, sm, hf, hw, BF, hq, cl, cy⟩
        refine ⟨N.n - (i + 1), by omega, some (.int q), v7, v8, i + 1, fo, row, rfl, (List.getElem?_eq_some_iff.mp hq).1, rfl, sm, hf, hw, BF, fun i' q' hi' e j hj ho => ?_⟩
        by_cases hii : i' < i
        · exact cl i' q' hii e j hj ho
        · have : i' = i := by omega
          subst this
          have : q' = q := Option.some.inj (e.symm.trans hq)
          subst this
          obtain ⟨y', hy', hjy⟩ := List.getElem_of_mem hj
          exact cy y' j (by simpa [nN] using hy') (by rw [List.getElem?_eq_getElem hy', hjy]) ho
    · have c : ¬ ((i : Int) < ((nN row).length : Int)) := fun z => c (decide_eq_true z)
      have hil : i = row.length := by simp [nN] at c; omega
      refine ⟨_, rfl, ?_⟩
      refine k H' lf fo (BF.done gd fun q hq j hj ho => ?_) hf hf0 sm
      obtain ⟨i', hi', e⟩ := List.getElem_of_mem hq
      exact cl i' q (by omega) (by rw [List.getElem?_eq_getElem hi', e]) j hj ho
end
end Px
set_option Elab.async false
set_option linter.all false
set_option maxRecDepth 100000
set_option maxHeartbeats 2000000
namespace Px
open PySem PySem.Spec PyProof.Rows L2
/-! ### Rooms.cost -/
def Cheap (N : Pn.FN) : Prop := ∀ i, i < N.m → 0 ≤ N.c i ∧ N.c i ≤ 1000000000
def spCost (C : Addr) : Sp := fun vs H Q _ => ∃ (p : Addr) (N : Pn.FN) (A : RA) (r : List Int), vs = [.ref p] ∧ RoomsAt C H p N A r ∧ r.length = 2 * N.m ∧ N.m ≤ 4096 ∧ Cheap N ∧
  ∀ (H' : Hp), Same H H' → Q (.int (Pn.cost N (Pn.Fl r))) H'
theorem scCost : FnScope ["self", "lane"] ["self"] (defScope sCost) := ⟨rfl, rfl, rfl, by decide +kernel, rfl, by decide +kernel, by decide +kernel⟩
theorem sum_sm (f : Nat → Int) (m : Nat) : ((List.range m).map f).sum = Pn.sm m f := by
  induction m with
  | zero => rfl
  | succ m ih =>
    rw [List.range_succ, List.map_append, List.sum_append, ih]
    show Pn.sm m f + ([f m] : List Int).sum = Pn.sm m f + f m
    simp
theorem size_two (m : Nat) : Builtin.Range.rangeSize 1 ((2 * m : Nat) : Int) 2 = m := by
  unfold Builtin.Range.rangeSize
  rw [if_pos (by decide)]
  split <;> omega
theorem rgc_two (m : Nat) (hm : m ≤ 4096) : RgC 1 ((2 * m : Nat) : Int) 2 m := by
  refine ⟨by decide, by decide, ?_, size_two m⟩
  unfold Builtin.Range.small
  rw [size_two]
  unfold Builtin.Range.rangeFitsLong
  rw [if_pos (by decide)]
  simp only [Bool.and_eq_true, Bool.or_eq_true, decide_eq_true_eq, beq_iff_eq]
  omega
section
variable {P : Program} {w : World} {K : PySem.W.Frag} {mg : Str → Option Value} {base : Heap}
theorem ok_cost {f C : Addr} {fd : FuncData} (F : Fun K "cost" "Rooms.cost" sCost f fd) (T : TRoo K C) (B : TB mg) : FnOk P w K mg base CX0 1 f fd ["self"] (spCost C) := by
  refine F.ok scCost (fun vs H Q E h => ?_) (fun cdv A outer s H vs Q E hr h => ?_)
  · obtain ⟨p, N, A, r, rfl, _⟩ := h
    rfl
  · obtain ⟨p, N, A, r, rfl, R, hrl, hm, hc, k⟩ := h
    refine ⟨_, pss_one (ps_ret (pe_callB (cr_sum rfl) (by rfl) B.sum boot_sum (pa_cons (pe_lc (own := [("lane", 1)]) rfl scCost.nd (pi_range3 rfl B.range (pa_cons pe_int (pa_cons (pe_callB call_len_seq (by rfl) B.len PySem.boot_len (pa_cons (pe_fld (pv 0) rfl) pa_nil)) (pa_cons pe_int pa_nil)))) (blkOk_by (by rfl))
      (fun _ _ _ _ _ => pg_name (i := 1) scCost.nd rfl (Or.inl rfl)) (fun _ _ _ _ _ => pts_nil) (fun _ _ _ _ _ => pe_op op_mul (pe_ix (ix_listK K) (pe_fldK K (pv 0) rfl) (pv 1) (fun _ _ => rfl)) (pe_un un_neg (pe_ix (ix_listK K) (pe_fldK K (pv 0) rfl) (pv 1) (fun _ _ => rfl))))) pa_nil))), ?_⟩
    refine ⟨_, rfl, p, C, A.dx, _, _, rfl, R.obj, T.cl, T.nHeads, rf_heads, A.lh, _, rfl, .inl (SqL.of R.heads), _, _, _, N.m, rfl, ?_, fun D hD => ?_⟩
    · have e : ((nI (hdL N)).length : Int) = ((2 * N.m : Nat) : Int) := by rw [List.length_map, hdL_len]
      rw [e]
      exact rgc_two N.m hm
    · refine lc_rangeC (n := N.m) (fun i H' => H' D = some (.lst (nI ((List.range i).map fun i => Pn.Fl r i * N.c i))) ∧ Same H H') ⟨upd_same, fun b o e => by rw [upd_ne (ne_of_none e hD)]; exact e⟩ ?_ ?_
      · rintro i H' hi ⟨h1, h2⟩
        have R1 : RoomsAt C H' p N A r := Raw.same R h2
        have ej : (1 : Int) + ((i : Nat) : Int) * 2 = ((2 * i + 1 : Nat) : Int) := by omega
        have hj : 2 * i + 1 < 2 * N.m := by omega
        refine ⟨rfl, tY ?_⟩
        refine ⟨_, rfl, p, C, A.dx, _, _, rfl, R1.obj, T.cl, T.nRoom, rf_room, _, rfl, A.lr, _, _, _, rfl, rfl, SqL.of R1.room, atI_ints ej (by rw [hrl]; exact hj), _, rfl, p, C, A.dx, _, _, rfl, R1.obj, T.cl, T.nPrices, rf_prices, _, rfl, A.lp, _, _, _, rfl, rfl, SqL.of R1.prices, atI_ints ej (by rw [prL_len]; exact hj), _, rfl, _, _, rfl, rfl, ?_, ?_⟩
        · rw [g_prL hj, pr_odd]
          have := hc i hi
          right
          constructor <;> omega
        · refine ⟨_, h1, by simp [nI, sizeLine_eq]; omega, ?_, fun b o e => by rw [upd_ne (ne_of_none e hD)]; exact h2 b o e⟩
          rw [upd_same, nI_snoc, g_prL hj, pr_odd, Int.neg_neg, List.range_succ, List.map_append]
          rfl
      · rintro H' ⟨h1, h2⟩
        refine ⟨D, _, rfl, SqL.of h1, ?_⟩
        rw [sum_sm]
        exact k H' h2
end
end Px
set_option Elab.async false
set_option linter.all false
set_option maxRecDepth 100000
set_option maxHeartbeats 2000000
namespace Px
open PySem PySem.Spec PyProof.Rows L2
theorem cut_take (xs : List V) (k : Nat) (h : k ≤ xs.length) : cutV xs none (some (k : Int)) = xs.take k := by
  unfold cutV
  rw [HT.sIx_none, HT.sIx_nat, List.drop_zero, Nat.sub_zero, Nat.min_eq_left h]
/-! ### before_full -/
def spBef (C : Addr) : Sp := fun vs H Q _ => ∃ (p q : Addr) (N : Pn.FN) (A : RA) (r : List Int) (path : List Nat), vs = [.ref p, .ref q] ∧ RoomsAt C H p N A r ∧ r.length = 2 * N.m ∧ H q = some (.lst (nN path)) ∧ (∀ j, j ∈ path → j < 2 * N.m) ∧
  ∀ (H' : Hp) (l : Addr) (k : Nat), H' l = some (.lst (nN (path.take k))) → H l = none → Same H H' → (∀ j, j ∈ path.take k → 0 < Pn.g r j) → Q (.ref l) H'
theorem scBef : FnScope ["rooms", "path", "count"] ["rooms", "path"] (defScope sBef) := ⟨rfl, rfl, rfl, by decide +kernel, rfl, by decide +kernel, by decide +kernel⟩
section
variable {P : Program} {w : World} {K : PySem.W.Frag} {mg : Str → Option Value} {base : Heap}
theorem ok_bef {f C : Addr} {fd : FuncData} (F : Fun K "before_full" "before_full" sBef f fd) (T : TRoo K C) (B : TB mg) : FnOk P w K mg base CX0 1 f fd ["rooms", "path"] (spBef C) := by
  refine F.ok scBef (fun vs H Q E h => ?_) (fun cdv A outer s H vs Q E hr h => ?_)
  · obtain ⟨p, q, N, A, r, path, rfl, _⟩ := h
    rfl
  · obtain ⟨p, q, N, A, r, path, rfl, R, hrl, hq, hl, k⟩ := h
    have nd := scBef.nd
    refine ⟨_, pss_cons (ps_set (i := 2) nd rfl (Or.inl rfl) pe_int)
      (pss_cons (ps_while PassesOwn.never (PW.pt (pw_and (pt_cmpR op_lt (pv 2) (pe_callB call_len_seq (by rfl) B.len PySem.boot_len (pa_cons (pv 1) pa_nil)) (nomark _)) (pw_and1 (pt_cmpR op_gt (pe_ix ix_list (pe_fld (pv 0) rfl) (pe_ix ix_list (pv 1) (pv 2) (fun _ _ => rfl)) (fun _ _ => rfl)) pe_int (nomark _)))))
        (pss_one (ps_aug (i := 2) nd rfl (Or.inl rfl) pe_int ip_add)))
      (pss_one (ps_ret (pe_slice sl_list (pv 1) po_none (po_some (pv 2)))))), ?_⟩
    refine ⟨fun m σ H' => ∃ i : Nat, m = path.length - i ∧ i ≤ path.length ∧ σ = [some (.ref p), some (.ref q), some (.int i)] ∧ H' = H ∧ ∀ j, j ∈ path.take i → 0 < Pn.g r j, ⟨_, 0, rfl, Nat.zero_le _, rfl, rfl, fun j hj => (by simp at hj)⟩, ?_⟩
    rintro m σ H' ⟨i, rfl, hi, rfl, rfl, hp⟩
    have fin : ∃ (v : V), (some (V.ref q)) = some v ∧ ∃ (z : V), (some (V.int (i : Int))) = some z ∧ True := ⟨_, rfl, _, rfl, trivial⟩
    have out : tRet (tSl (rSlL K) (tVar 1) tNoPart (tPart (tVar 2))) { nx := fun _ H'_1 => Q V.non H'_1, rt := Q } [some (.ref p), some (.ref q), some (.int i)] H' := by
      refine ⟨_, rfl, _, rfl, _, rfl, q, _, rfl, SqL.of hq, fun l hl0 => ?_⟩
      rw [cut_take _ _ (by rw [List.length_map]; exact hi)]
      refine k _ l i (by rw [upd_same]; unfold nN; rw [List.map_take]) hl0 (fun b o e => by rw [upd_ne (ne_of_none e hl0)]; exact e) hp
    refine ⟨_, rfl, _, rfl, q, _, rfl, .inl (SqL.of hq), _, _, rfl, rfl, _, rfl, ite2 (fun c => ?_) (fun c => ?_)⟩
    · have c := of_decide_eq_true c
      have hil : i < path.length := by simpa [nN] using c
      obtain ⟨j, hj⟩ : ∃ j, path[i]? = some j := ⟨_, List.getElem?_eq_getElem hil⟩
      have hjm := hl j (List.mem_of_getElem? hj)
      refine ⟨_, rfl, p, C, A.dx, _, _, rfl, R.obj, T.cl, T.nRoom, rf_room, _, rfl, _, rfl, q, _, _, _, rfl, rfl, SqL.of hq, at_of (j := i) rfl (nats_at hj), A.lr, _, _, _, rfl, rfl, SqL.of R.room, atI_ints (j := j) rfl (by rw [hrl]; exact hjm), _, _, rfl, rfl, _, rfl, ite2 (fun d => ?_) (fun d => ?_)⟩
      · have d := of_decide_eq_true d
        refine ⟨fun σ' H'' => ∃ m', m' < path.length - i ∧ ∃ i : Nat, m' = path.length - i ∧ i ≤ path.length ∧ σ' = [some (.ref p), some (.ref q), some (.int i)] ∧ H'' = H' ∧ ∀ j, j ∈ path.take i → 0 < Pn.g r j, fun _ _ z => z, ?_⟩
        refine ⟨_, rfl, _, _, rfl, rfl, path.length - (i + 1), by omega, i + 1, rfl, hil, rfl, rfl, fun j' hj' => ?_⟩
        rw [List.take_add_one, hj] at hj'
        rcases List.mem_append.mp hj' with z | z
        · exact hp j' z
        · simp at z; subst z; exact d
      · exact out
    · exact iteF out
/-! ### advance -/
def spAdv (C : Addr) : Sp := fun vs H Q _ => ∃ (p ls lt : Addr) (N : Pn.FN) (A : RA) (r st tr : List Int) (q : Nat), vs = [.ref p, .ref ls, .ref lt, .int q] ∧ RoomsAt C H p N A r ∧ r.length = 2 * N.m ∧ N.Good ∧ H ls = some (.lst (nI st)) ∧ st.length = N.n ∧ H lt = some (.lst (nI tr)) ∧ tr.length = N.n ∧
  q < N.n ∧ 0 ≤ Pn.g tr q ∧ Pn.g tr q ≤ Pn.ln N q ∧ lt ∉ p :: A.all ∧ lt ≠ ls ∧
  ∀ (H' : Hp) (tr' : List Int) (fd : Bool), Pn.Adv N st r q tr tr' fd → H' lt = some (.lst (nI tr')) → Kp [lt] H H' → Q (.bl fd) H'
theorem scAdv : FnScope ["rooms", "steps", "tried", "place", "lanes", "lane"] ["rooms", "steps", "tried", "place"] (defScope sAdv) := ⟨rfl, rfl, rfl, by decide +kernel, rfl, by decide +kernel, by decide +kernel⟩
theorem Raw.off {C : Addr} {H H' : Hp} {p : Addr} {A : RA} {n : Nat} {hs r ps : List Int} {ln : Nat → List Nat} {W : List Addr} (R : Raw C H p A n hs r ps ln) (k : Kp W H H') (h : ∀ b, b ∈ W → b ∉ p :: A.all) : Raw C H' p A n hs r ps ln :=
  R.keep fun b o e m => k b o e fun z => h b z m
theorem ok_adv {f C : Addr} {fd : FuncData} (F : Fun K "advance" "advance" sAdv f fd) (T : TRoo K C) (B : TB mg) : FnOk P w K mg base CX0 1 f fd ["rooms", "steps", "tried", "place"] (spAdv C) := by
  refine F.ok scAdv (fun vs H Q E h => ?_) (fun cdv A outer s H vs Q E hr h => ?_)
  · obtain ⟨p, ls, lt, N, A, r, st, tr, q, rfl, _⟩ := h
    rfl
  · obtain ⟨p, ls, lt, N, A, r, st, tr, q, rfl, R, hrl, gd, hls, hsl, hlt, htl, hq, h0, h1, n1, n2, k⟩ := h
    have nd := scAdv.nd
    refine ⟨_, pss_cons (ps_set (i := 4) nd rfl (Or.inl rfl) (pe_ix ix_list (pe_fld (pv 0) rfl) (pv 3) (fun _ _ => rfl)))
      (pss_cons (ps_while PassesOwn.never (pt_cmpR op_lt (pe_ix ix_list (pv 2) (pv 3) (fun _ _ => rfl)) (pe_callB call_len_seq (by rfl) B.len PySem.boot_len (pa_cons (pv 4) pa_nil)) (nomark _))
        (pss_cons (ps_set (i := 5) nd rfl (Or.inl rfl) (pe_ix ix_list (pv 4) (pe_ix ix_list (pv 2) (pv 3) (fun _ _ => rfl)) (fun _ _ => rfl)))
        (pss_cons (ps_if (PW.pt (pw_and (pt_cmpR op_gt (pe_ix ix_list (pe_fld (pv 0) rfl) (pv 5) (fun _ _ => rfl)) pe_int (nomark _)) (pw_and1 (pt_cmpR op_eq (pe_ix ix_list (pv 1) (pe_ix ix_list (pe_fld (pv 0) rfl) (pv 5) (fun _ _ => rfl)) (fun _ _ => rfl)) (pe_op op_add (pe_ix ix_list (pv 1) (pv 3) (fun _ _ => rfl)) pe_int) (nomark _)))))
          (pss_one (ps_ret pe_bl)) pss_nil)
        (pss_one (ps_augS (pv 2) (pv 3) get_list pe_int ip_add set_list)))))
      (pss_one (ps_ret pe_bl))), ?_⟩
    obtain ⟨la, hla⟩ : ∃ la, A.ls[q]? = some la := ⟨_, List.getElem?_eq_getElem (by rw [R.lsl]; exact hq)⟩
    refine ⟨_, rfl, p, C, A.dx, _, _, rfl, R.obj, T.cl, T.nLanes, rf_lanes, _, rfl, A.ll, _, _, _, rfl, rfl, SqL.of R.lanes, at_of (j := q) (v := V.ref la) rfl (by rw [List.getElem?_map, hla]; rfl), ?_⟩
    obtain ⟨W, hW⟩ : ∃ W : Nat → L2.St → Hp → Prop, ∀ m σ H', W m σ H' ↔ ∃ (v5 : Option V) (tr' : List Int), m = (Pn.ln N q - Pn.g tr' q).toNat ∧ σ = [some (.ref p), some (.ref ls), some (.ref lt), some (.int q), some (.ref la), v5] ∧ H' lt = some (.lst (nI tr')) ∧ Kp [lt] H H' ∧ tr'.length = N.n ∧ (∀ p, p ≠ q → Pn.g tr' p = Pn.g tr p) ∧ Pn.g tr q ≤ Pn.g tr' q ∧ Pn.g tr' q ≤ Pn.ln N q ∧
      ∀ (i l : Nat), (Pn.lanesOf N q)[i]? = some l → Pn.g tr q ≤ (i : Int) → (i : Int) < Pn.g tr' q → ¬ (0 < Pn.g r l ∧ Pn.g st (Pn.hd N l) = Pn.g st q + 1) := ⟨_, fun _ _ _ => Iff.rfl⟩
    refine ⟨W, ⟨_, (hW _ _ _).mpr ⟨none, tr, rfl, rfl, hlt, Kp.refl H, htl, fun _ _ => rfl, Int.le_refl _, h1, fun i l _ z1 z2 => (by omega)⟩⟩, ?_⟩
    intro m σ H' hw
    obtain ⟨v5, tr', rfl, rfl, hlt', kp, len', oth, ge, le, skip⟩ := (hW _ _ _).mp hw
    have R1 : RoomsAt C H' p N A r := Raw.off R kp (fun b hb => by simp at hb; subst hb; exact n1)
    have hls1 : H' ls = some (.lst (nI st)) := kp _ _ hls (by simp [Ne.symm n2])
    refine ⟨_, rfl, _, rfl, lt, _, _, _, rfl, rfl, SqL.of hlt', atI_ints (j := q) rfl (by rw [len']; exact hq), _, rfl, la, _, rfl, .inl (SqL.of (R1.lane q la hla)), _, _, rfl, rfl, _, rfl, ite2 (fun c => ?_) (fun c => ?_)⟩
    · have c := of_decide_eq_true c
      rw [List.length_map] at c
      obtain ⟨i, ei⟩ : ∃ i : Nat, Pn.g tr' q = (i : Int) := ⟨(Pn.g tr' q).toNat, by omega⟩
      have hil : i < (Pn.lanesOf N q).length := by omega
      obtain ⟨j, hj⟩ : ∃ j, (Pn.lanesOf N q)[i]? = some j := ⟨_, List.getElem?_eq_getElem hil⟩
      obtain ⟨hj2, hjt⟩ := Pn.mem_lanes.mp (List.mem_of_getElem? hj)
      have hhd := Pn.hd_lt gd hj2
      refine ⟨fun σ' H'' => ∃ m', m' < (Pn.ln N q - Pn.g tr' q).toNat ∧ W m' σ' H'', fun _ _ z => z, ?_⟩
      refine ⟨_, rfl, _, rfl, _, rfl, lt, _, _, _, rfl, rfl, SqL.of hlt', atI_ints (j := q) rfl (by rw [len']; exact hq), la, _, _, _, rfl, rfl, SqL.of (R1.lane q la hla), at_of ei (nats_at hj), ?_⟩
      have go : ¬ (0 < Pn.g r j ∧ Pn.g st (Pn.hd N j) = Pn.g st q + 1) → ∀ D : Ends, (∀ σ' H'', (∃ m', m' < (Pn.ln N q - Pn.g tr' q).toNat ∧ W m' σ' H'') → D.nx σ' H'') → tAugS (tVar 2) (tVar 3) (tC (.int 1)) rGet (ipI fun i j => i + j) rSetL D [some (.ref p), some (.ref ls), some (.ref lt), some (.int q), some (.ref la), some (.int j)] H' := by
        intro nn D hD
        refine ⟨_, rfl, _, rfl, lt, _, _, q, _, rfl, rfl, hlt', rfl, ints_at (by rw [len']; exact hq), _, _, rfl, rfl, lt, _, _, q, rfl, rfl, hlt', ixN_nat rfl (by rw [List.length_map, len']; exact hq), ?_⟩
        rw [ints_set]
        have gs : ∀ x, Pn.g (tr'.set q (Pn.g tr' q + 1)) x = if x = q then Pn.g tr' q + 1 else Pn.g tr' x := fun x => Pn.g_set _ (by rw [len']; exact hq) x
        refine hD _ _ ⟨(Pn.ln N q - Pn.g (tr'.set q (Pn.g tr' q + 1)) q).toNat, ?_, (hW _ _ _).mpr ⟨_, _, rfl, rfl, upd_same, kp.upd (by simp), by rw [List.length_set]; exact len', fun x hx => by rw [gs, if_neg hx]; exact oth x hx, ?_, ?_, fun i' l' e z1 z2 => ?_⟩⟩
        · rw [gs, if_pos rfl]; unfold Pn.ln; omega
        · rw [gs, if_pos rfl]; omega
        · rw [gs, if_pos rfl]; unfold Pn.ln; omega
        · rw [gs, if_pos rfl] at z2
          by_cases ii : i' = i
          · subst ii
            have : l' = j := Option.some.inj (e.symm.trans hj)
            subst this
            exact nn
          · exact skip i' l' e z1 (by omega)
      refine ⟨_, rfl, p, C, A.dx, _, _, rfl, R1.obj, T.cl, T.nRoom, rf_room, _, rfl, A.lr, _, _, _, rfl, rfl, SqL.of R1.room, atI_ints (j := j) rfl (by rw [hrl]; exact hj2), _, _, rfl, rfl, _, rfl, ite2 (fun d => ?_) (fun d => ?_)⟩
      · have d := of_decide_eq_true d
        refine ⟨_, rfl, _, rfl, p, C, A.dx, _, _, rfl, R1.obj, T.cl, T.nHeads, rf_heads, _, rfl, A.lh, _, _, _, rfl, rfl, SqL.of R1.heads, atI_ints (j := j) rfl (by rw [hdL_len]; exact hj2), ls, _, _, _, rfl, rfl, SqL.of hls1, atI_ints (j := Pn.hd N j) (g_hdL hj2) (by rw [hsl]; exact hhd), ?_⟩
        refine ⟨_, rfl, _, rfl, ls, _, _, _, rfl, rfl, SqL.of hls1, atI_ints (j := q) rfl (by rw [hsl]; exact hq), _, _, rfl, rfl, rfl, _, rfl, ite2 (fun e => ?_) (fun e => ?_)⟩
        · have e := V.int.inj (of_decide_eq_true e)
          refine k H' tr' true ⟨len', oth, ge, le, skip, fun _ => ⟨j, ?_, d, e⟩, fun z => Bool.noConfusion z⟩ hlt' kp
          rw [ei, Int.toNat_natCast]; exact hj
        · exact go (fun z => e (decide_eq_true (congrArg V.int z.2))) _ (fun _ _ z => z)
      · exact iteF (go (fun z => d (decide_eq_true z.1)) _ (fun _ _ z => z))
    · have c : ¬ (Pn.g tr' q < (((Pn.lanesOf N q).map fun (j : Nat) => V.int (j : Int)).length : Int)) := fun z => c (decide_eq_true z)
      rw [List.length_map] at c
      exact k H' tr' false ⟨len', oth, ge, le, skip, fun z => Bool.noConfusion z, fun _ => by unfold Pn.ln at le ⊢; omega⟩ hlt' kp
end
end Px
set_option Elab.async false
set_option linter.all false
set_option maxRecDepth 100000
set_option maxHeartbeats 2000000
namespace Px
open PySem PySem.Spec PyProof.Rows L2
/-! ### fill_shortest -/
def spShort (C : Addr) : Sp := fun vs H Q _ => ∃ (p ls : Addr) (N : Pn.FN) (A : RA) (r st : List Int) (s t : Nat) (most : Int), vs = [.ref p, .ref ls, .int s, .int t, .int most] ∧ RoomsAt C H p N A r ∧ Pn.RoomOk N r ∧ N.Good ∧ N.n ≤ 256 ∧ N.m ≤ 4096 ∧ H ls = some (.lst (nI st)) ∧ ls ∉ p :: A.all ∧ Pn.Steps N r 0 s st ∧ 0 ≤ Pn.g st t ∧ s < N.n ∧ t < N.n ∧ s ≠ t ∧ 0 < most ∧
  ∀ (H' : Hp) (r' tr : List Int) (path : List Nat) (b : Int), Pn.Fs N s t st r r' tr path b most → 0 < b → RoomsAt C H' p N A r' → Kp [A.lr] H H' → Q (.int b) H'
theorem scShort : FnScope ["rooms", "steps", "start", "goal", "most", "tried", "path", "brought", "place", "units", "lane"] ["rooms", "steps", "start", "goal", "most"] (defScope sShort) := ⟨rfl, rfl, rfl, by decide +kernel, rfl, by decide +kernel, by decide +kernel⟩
section
variable {P : Program} {w : World} {K : PySem.W.Frag} {mg : Str → Option Value} {base : Heap}
theorem Raw.len {C : Addr} {H : Hp} {p : Addr} {A : RA} {n : Nat} {hs r ps : List Int} {ln : Nat → List Nat} (R : Raw C H p A n hs r ps ln) {a : Addr} (h : H a = none) : a ∉ p :: A.all := fun m => by
  simp only [RA.all, List.mem_cons] at m
  rcases m with z | z | z | z | z | z
  · rw [z, R.obj] at h; cases h
  · rw [z, R.heads] at h; cases h
  · rw [z, R.room] at h; cases h
  · rw [z, R.prices] at h; cases h
  · rw [z, R.lanes] at h; cases h
  · obtain ⟨i, hi, e⟩ := List.getElem_of_mem z
    rw [R.lane i a (by rw [List.getElem?_eq_getElem hi, e])] at h; cases h
theorem ok_short {f C : Addr} {fd : FuncData} (F : Fun K "fill_shortest" "fill_shortest" sShort f fd) (T : TRoo K C) (B : TB mg)
    (GE : GF P w K mg base CX0 1 "end_of" ["rooms", "path", "start"] (spEnd C)) (GB : GF P w K mg base CX0 1 "before_full" ["rooms", "path"] (spBef C)) (GV : GF P w K mg base CX0 1 "advance" ["rooms", "steps", "tried", "place"] (spAdv C))
    (GP : MF P w K mg base CX0 1 C "push" ["self", "path", "units"] (spPush C)) : FnOk P w K mg base CX0 2 f fd ["rooms", "steps", "start", "goal", "most"] (spShort C) := by
  obtain ⟨fE, fdE, GE, bE, mE, kE⟩ := GE
  obtain ⟨fB, fdB, GB, bB, mB, kB⟩ := GB
  obtain ⟨fV, fdV, GV, bV, mV, kV⟩ := GV
  obtain ⟨fP, fdP, GP, bP, mP⟩ := GP
  refine F.ok scShort (fun vs H Q E h => ?_) (fun cdv A outer s H vs Q E hr h => ?_)
  · obtain ⟨p, ls, N, A, r, st, s, t, most, rfl, _⟩ := h
    rfl
  · obtain ⟨p, ls, N, A, r, st, s, t, most, rfl, R, ok, gd, hn, hm, hls, hlsn, S, ht0, hs, ht, hst, hmost, k⟩ := h
    have nd := scShort.nd
    refine ⟨_, pss_cons (ps_set (i := 5) nd rfl (Or.inl rfl) (pe_op op_rep (pe_lst (pa_cons pe_int pa_nil)) (pe_fld (pv 0) rfl)))
      (pss_cons (ps_set (i := 6) nd rfl (Or.inl rfl) (pe_lst pa_nil))
      (pss_cons (ps_set (i := 7) nd rfl (Or.inl rfl) pe_int)
      (pss_cons (ps_set (i := 8) nd rfl (Or.inl rfl) (pv 2))
      (pss_cons (ps_while PassesOwn.never (pt_cmpR op_lt (pv 7) (pv 4) (nomark _))
        (pss_cons (ps_if (pt_cmpR op_eq (pv 8) (pv 3) (nomark _))
          (pss_cons (ps_set (i := 9) nd rfl (Or.inl rfl) (pe_callB (call_min2 rfl) (by rfl) B.min boot_min (pa_cons (pe_op op_sub (pv 4) (pv 7)) (pa_cons (pe_callB (cr_min rfl) (by rfl) B.min boot_min (pa_cons
              (pe_lc (own := [("lane", 10)]) rfl nd (pi_list (pv 6)) (blkOk_by (by rfl)) (fun _ _ _ _ _ => pg_name (i := 10) nd rfl (Or.inl rfl)) (fun _ _ _ _ _ => pts_nil) (fun _ _ _ _ _ => pe_ix (ix_listK K) (pe_fldK K (pv 0) rfl) (pv 10) (fun _ _ => rfl))) pa_nil)) pa_nil))))
          (pss_cons (ps_expr (pe_meth (pv 0) T.cl mP GP hr bP .nil pass0 (pa_cons (pv 6) (pa_cons (pv 9) pa_nil))))
          (pss_cons (ps_aug (i := 7) nd rfl (Or.inl rfl) (pv 9) ip_add)
          (pss_one (ps_set (i := 6) nd rfl (Or.inl rfl) (pe_call GB hr rfl mB kB bB .nil pass0 (pa_cons (pv 0) (pa_cons (pv 6) pa_nil))))))))
          (pss_one (ps_if (pt_val (pe_call GV hr rfl mV kV bV .nil pass0 (pa_cons (pv 0) (pa_cons (pv 1) (pa_cons (pv 5) (pa_cons (pv 8) pa_nil))))))
            (pss_one (ps_expr (pe_bm PySem.F.plainAttrs_list PySem.F.slot_list_append PySem.F.type_list_append mt_append (pv 6) (pa_cons (pe_ix ix_list (pe_ix ix_list (pe_fld (pv 0) rfl) (pv 8) (fun _ _ => rfl)) (pe_ix ix_list (pv 5) (pv 8) (fun _ _ => rfl)) (fun _ _ => rfl)) pa_nil))))
            (pss_one (ps_if (pt_truth (pv 6) (fun _ => rfl))
              (pss_cons (ps_expr (pe_bm0 PySem.F.plainAttrs_list PySem.F.slot_list_pop PySem.F.type_list_pop mt_pop (pv 6)))
                (pss_one (ps_augS (pv 5) (pe_call GE hr rfl mE kE bE .nil pass0 (pa_cons (pv 0) (pa_cons (pv 6) (pa_cons (pv 2) pa_nil)))) get_list pe_int ip_add set_list)))
              (pss_one ps_break))))))
        (pss_one (ps_set (i := 8) nd rfl (Or.inl rfl) (pe_call GE hr rfl mE kE bE .nil pass0 (pa_cons (pv 0) (pa_cons (pv 6) (pa_cons (pv 2) pa_nil))))))))
      (pss_one (ps_ret (pv 7))))))), ?_⟩
    refine ⟨(by show 1 ≤ sizeLine; decide), fun l0 hl0 => ?_⟩
    have s0 : Same H (upd H l0 (.lst [V.int 0])) := fun b ob e => by rw [upd_ne (ne_of_none e hl0)]; exact e
    refine ⟨_, rfl, p, C, A.dx, _, _, rfl, s0 _ _ R.obj, T.cl, T.nPlaces, rf_places, l0, _, _, rfl, rfl, upd_same, by omega, by omega, by simp [sizeLine_eq]; omega, fun lt hlt => ?_⟩
    have ht0' : H lt = none := s0.free hlt
    rw [show ((N.n : Nat) : Int).toNat = N.n from Int.toNat_natCast _, rep_one, rep_int]
    generalize e1 : upd (upd H l0 (.lst [V.int 0])) lt _ = H1
    have s1 : Same H H1 := fun b ob e => by rw [← e1, upd_ne (ne_of_none e ht0')]; exact s0 b ob e
    have f1 : H1 lt = some (.lst (nI (List.replicate N.n 0))) := by rw [← e1]; exact upd_same
    refine ⟨Nat.zero_le _, fun lq0 hlq0 => ?_⟩
    have hq00 : H lq0 = none := s1.free hlq0
    have nq0 : lt ≠ lq0 := ne_of_none f1 hlq0
    generalize e2 : upd H1 lq0 _ = H2
    have s2 : Same H H2 := fun b ob e => by rw [← e2, upd_ne (ne_of_none e hq00)]; exact s1 b ob e
    have f2 : H2 lt = some (.lst (nI (List.replicate N.n 0))) := by rw [← e2, upd_ne nq0]; exact f1
    have q2 : H2 lq0 = some (.lst (nN [])) := by rw [← e2]; exact upd_same
    refine ⟨_, rfl, ?_⟩
    obtain ⟨W, hW⟩ : ∃ W : Nat → L2.St → Hp → Prop, ∀ m σ H', W m σ H' ↔ ∃ (v9 : Option V) (lq : Addr) (r' tr : List Int) (path : List Nat) (b : Int), m = Pn.mu N tr path b most ∧ σ = [some (.ref p), some (.ref ls), some (.int s), some (.int t), some (.int most), some (.ref lt), some (.ref lq), some (.int b), some (.int (Pn.vlast N s path : Nat)), v9, none] ∧
      Pn.Fs N s t st r r' tr path b most ∧ RoomsAt C H' p N A r' ∧ H' lt = some (.lst (nI tr)) ∧ H' lq = some (.lst (nN path)) ∧ H lq = none ∧ lt ≠ lq ∧ Kp [A.lr] H H' := ⟨_, fun _ _ _ => Iff.rfl⟩
    refine ⟨W, ⟨_, (hW _ _ _).mpr ⟨none, lq0, r, _, [], 0, rfl, rfl, Pn.fs_init ok (by omega), Raw.same R s2, f2, q2, hq00, nq0, fun b o e _ => s2 b o e⟩⟩, ?_⟩
    intro m σ H' hw
    obtain ⟨v9, lq, r', tr, path, b, rfl, rfl, FS, R', hlt', hq', hq0, nq, kp⟩ := (hW _ _ _).mp hw
    have z0 := S.zero
    have hpl : ∀ {st r' tr : List Int} {path : List Nat} {b : Int}, Pn.Fs N s t st r r' tr path b most → ∀ j, j ∈ path → j < 2 * N.m := fun FS j hj => (FS.pth.mem hj).1
    have ltA : lt ∉ p :: A.all := R.len ht0'
    have lsA : ∀ {x : Addr}, H x = none → x ≠ A.lr := fun hx z => by have := R.room; rw [← z, hx] at this; cases this
    have fin : ∀ (H2 : Hp) (lq2 : Addr) (r2 tr2 : List Int) (path2 : List Nat) (b2 : Int) (v8 v9 : Option V), Pn.Fs N s t st r r2 tr2 path2 b2 most → Pn.mu N tr2 path2 b2 most < Pn.mu N tr path b most → RoomsAt C H2 p N A r2 → H2 lt = some (.lst (nI tr2)) → H2 lq2 = some (.lst (nN path2)) → H lq2 = none → lt ≠ lq2 → Kp [A.lr] H H2 →
        ∀ D : Ends, (∀ σ H'', (∃ m', m' < Pn.mu N tr path b most ∧ W m' σ H'') → D.nx σ H'') → tAsg (tCall (spEnd C) [] E0 (tCons (tVar 0) (tCons (tVar 6) (tCons (tVar 2) tNil)))) (gName 8) D [some (.ref p), some (.ref ls), some (.int s), some (.int t), some (.int most), some (.ref lt), some (.ref lq2), some (.int b2), v8, v9, none] H2 := by
      intro H2 lq2 r2 tr2 path2 b2 v8 v9 y1 y2 y3 y4 y5 y6 y7 y8 D hD
      exact ⟨_, rfl, _, rfl, _, rfl, p, lq2, N, A, r2, path2, s, rfl, y3, y5, hpl y1, hD _ _ ⟨_, y2, (hW _ _ _).mpr ⟨v9, lq2, r2, tr2, path2, b2, rfl, rfl, y1, y3, y4, y5, y6, y7, y8⟩⟩⟩
    refine ⟨_, rfl, _, rfl, _, _, rfl, rfl, _, rfl, ite2 (fun c => ?_) (fun c => ?_)⟩
    · have c := of_decide_eq_true c
      refine ⟨fun σ' H'' => ∃ m', m' < Pn.mu N tr path b most ∧ W m' σ' H'', fun _ _ z => z, ?_⟩
      refine ⟨_, rfl, _, rfl, rfl, _, rfl, ite2 (fun d => ?_) (fun d => ?_)⟩
      · -- the goal is reached
        have d : Pn.vlast N s path = t := by have := V.int.inj (of_decide_eq_true d); omega
        have hne : path ≠ [] := fun z => by rw [z, Pn.vlast_nil] at d; exact hst d
        refine ⟨_, rfl, _, rfl, _, _, rfl, rfl, _, rfl, lq, rfl, ⟨_, SqL.of hq'⟩, fun D hD => ?_⟩
        have hq'' : ∀ {H2 : Hp}, Same H' H2 → H2 lq = some (.lst (nN path)) := fun z => z _ _ hq'
        refine lc_list (K := K) (a := lq) (xs := nN path) (fun i H2 => H2 D = some (.lst (nI ((path.take i).map (Pn.g r')))) ∧ Same H' H2) ⟨upd_same, fun b o e => by rw [upd_ne (ne_of_none e hD)]; exact e⟩ (fun i H2 _ z => SqL.of (hq'' z.2)) ?_ ?_
        · rintro i x H2 hx ⟨y1, y2⟩
          obtain ⟨j, hj, rfl⟩ := nN_at' hx
          have hj2 := hpl FS j (List.mem_of_getElem? hj)
          have R2 : RoomsAt C H2 p N A r' := Raw.same R' y2
          refine ⟨rfl, tY ?_⟩
          refine ⟨_, rfl, p, C, A.dx, _, _, rfl, R2.obj, T.cl, T.nRoom, rf_room, _, rfl, A.lr, _, _, _, rfl, rfl, SqL.of R2.room, atI_ints (j := j) rfl (by rw [FS.room.len]; exact hj2), _, y1, ?_, ?_, fun b o e => by rw [upd_ne (ne_of_none e hD)]; exact y2 b o e⟩
          · have := FS.pth.len_le gd
            simp [nI, sizeLine_eq]; omega
          · rw [upd_same, nI_snoc, List.take_add_one, hj, List.map_append]; rfl
        · rintro H2 ⟨y1, y2⟩
          rw [show (nN path).length = path.length by simp [nN], List.take_length] at y1
          refine ⟨D, path.map (Pn.g r'), rfl, SqL.of y1, ?_, fun mn hmn hmin => ⟨_, _, rfl, ?_⟩⟩
          · rw [List.length_map]; exact List.length_pos_iff.mpr hne
          · obtain ⟨jm, hjm, ejm⟩ := List.mem_map.mp hmn
            have pos : 0 < mn := by rw [← ejm]; exact (FS.pth.mem hjm).2.1
            generalize eu : (if mn < most - b then mn else most - b) = u
            have u0 : 0 < u := by rw [← eu]; split <;> omega
            have u1 : u ≤ most - b := by rw [← eu]; split <;> omega
            have u2 : ∀ l, l ∈ path → u ≤ Pn.g r' l := fun l hl => by
              have := hmin _ (List.mem_map.mpr ⟨l, hl, rfl⟩)
              have : u ≤ mn := by rw [← eu]; split <;> omega
              omega
            have R2 : RoomsAt C H2 p N A r' := Raw.same R' y2
            refine ⟨_, rfl, p, A.dx, _, rfl, R2.obj, by rfl, _, rfl, _, rfl, p, lq, N, A, r', path, u, rfl, R2, FS.room.len, hq'' y2, lsA hq0, hpl FS, fun H3 R3 kp3 => ?_⟩
            refine ⟨_, rfl, _, rfl, _, _, rfl, rfl, ?_⟩
            have l3 : (Pn.pushL u r' path).length = 2 * N.m := by rw [pushL_len]; exact FS.room.len
            have hq3 : H3 lq = some (.lst (nN path)) := kp3 _ _ (hq'' y2) (by simpa using lsA hq0)
            have ht3 : H3 lt = some (.lst (nI tr)) := kp3 _ _ (y2 _ _ hlt') (by simpa using lsA ht0')
            have k3 : Kp [A.lr] H H3 := (kp.trans (fun b o e _ => y2 b o e)).trans kp3
            refine ⟨_, rfl, _, rfl, p, lq, N, A, _, path, rfl, R3, l3, hq3, hpl FS, fun H4 l kk z1 z2 z3 z4 => ?_⟩
            obtain ⟨g1, g2⟩ := Pn.fs_push gd FS d u0 u1 u2 z4
            have hl0 : H l = none := k3.free z2 (fun z => by simp at z; rw [z, R3.room] at z2; cases z2)
            exact fin H4 l _ _ _ _ _ _ g1 g2 (Raw.same R3 z3) (z3 _ _ ht3) z1 hl0 (ne_of_none ht3 z2) (k3.trans (fun b o e _ => z3 b o e)) _ (fun _ _ z => z)
      · -- onwards, or back
        have d : Pn.vlast N s path ≠ t := fun z => d (decide_eq_true (congrArg V.int (by rw [z])))
        have hv := FS.pth.vlt gd hs
        obtain ⟨tb0, tb1⟩ := FS.trb _ hv
        have hls' : H' ls = some (.lst (nI st)) := kp _ _ hls (fun z => by simp at z; exact hlsn (by simp [z, RA.all]))
        refine ⟨_, rfl, _, rfl, _, rfl, _, rfl, p, ls, lt, N, A, r', st, tr, _, rfl, R', FS.room.len, gd, hls', S.len, hlt', FS.trl, hv, tb0, tb1, ltA, fun z => (by rw [z, hls] at ht0'; cases ht0'), fun H2 tr2 fd2 AD ht2 kp2 => ⟨_, rfl, ?_⟩⟩
        obtain ⟨g1, g2⟩ := Pn.fs_adv gd FS hs z0 AD
        have R2 : RoomsAt C H2 p N A r' := Raw.off R' kp2 (fun b hb => by simp at hb; subst hb; exact ltA)
        have hq2 : H2 lq = some (.lst (nN path)) := kp2 _ _ hq' (by simp [Ne.symm nq])
        have k2 : Kp [A.lr] H H2 := fun b o e nb => kp2 b o (kp b o e nb) (fun z => by simp at z; rw [z, ht0'] at e; cases e)
        have tr2l := AD.len
        refine ite2 (fun c2 => ?_) (fun c2 => ?_)
        · subst c2
          obtain ⟨l, a1, a2, a3⟩ := AD.yes rfl
          obtain ⟨la, hla⟩ : ∃ la, A.ls[Pn.vlast N s path]? = some la := ⟨_, List.getElem?_eq_getElem (by rw [R.lsl]; exact hv)⟩
          have a4 : Pn.g tr2 (Pn.vlast N s path) = ((Pn.g tr2 (Pn.vlast N s path)).toNat : Int) := by have := AD.ge; omega
          obtain ⟨h1, h2⟩ := Pn.fs_app gd g1 hs z0 a1 a2 a3
          have pl := FS.pth.len_le gd
          refine ⟨_, rfl, tyL hq2, _, rfl, p, C, A.dx, _, _, rfl, R2.obj, T.cl, T.nLanes, rf_lanes, _, rfl, A.ll, _, _, _, rfl, rfl, SqL.of R2.lanes, at_of (j := Pn.vlast N s path) (v := V.ref la) rfl (by rw [List.getElem?_map, hla]; rfl), _, rfl, _, rfl, lt, _, _, _, rfl, rfl, SqL.of ht2, atI_ints (j := Pn.vlast N s path) rfl (by rw [tr2l]; exact hv), la, _, _, _, rfl, rfl, SqL.of (R2.lane _ la hla), at_of a4 (nats_at a1), lq, _, _, rfl, rfl, hq2, by rw [List.length_map, sizeLine_eq]; omega, ?_⟩
          rw [nN_snoc]
          refine fin _ lq _ _ _ _ _ _ h1 (Nat.lt_of_lt_of_le h2 g2) (Raw.off R2 ((Kp.refl H2).upd (W := [lq]) (by simp)) (fun b hb => by simp at hb; subst hb; exact R.len hq0)) (by rw [upd_ne nq]; exact ht2) upd_same hq0 nq (fun b o e nb => ?_) _ (fun _ _ z => z)
          rw [upd_ne (ne_of_none e hq0)]; exact k2 b o e nb
        · have c2 : fd2 = false := by cases fd2 <;> simp_all
          subst c2
          have a1 := AD.no rfl
          refine ⟨_, rfl, _, .inl ⟨_, SqL.of hq2, rfl⟩, ?_⟩
          rcases List.eq_nil_or_concat path with e | ⟨q, l, e⟩
          · subst e
            refine iteF ?_
            refine ⟨_, rfl, ?_⟩
            by_cases hb0 : b = 0
            · subst hb0
              obtain ⟨er, _⟩ := FS.dead rfl
              subst er
              exact (Pn.fs_end gd hs hst ht S ht0 g1 a1).elim
            · have := FS.b0
              exact k H2 r' tr2 [] b g1 (by omega) R2 k2
          · rw [List.concat_eq_append] at e
            subst e
            have e2 : (!(nN (q ++ [l])).isEmpty) = true := by simp [nN]
            rw [e2]
            refine iteT ?_
            rw [Pn.vlast_snoc] at d a1
            obtain ⟨h1, h2⟩ := Pn.fs_pop gd g1 hs z0 d a1
            have htl := g1.pth.lastTl
            have hlm := hpl FS l (by simp)
            have hvq : Pn.vlast N s q < N.n := by rw [← htl]; exact Pn.tl_lt gd hlm
            refine ⟨_, rfl, tyL hq2, lq, _, V.int (l : Int), rfl, rfl, hq2, ?_, ?_⟩
            · simp [nN]
            · have ed : (nN (q ++ [l])).dropLast = nN q := by simp [nN]
              rw [ed]
              generalize e3 : upd H2 lq _ = H3
              have u3 : ∀ x, x ≠ lq → H3 x = H2 x := fun x hx => by rw [← e3, upd_ne hx]
              have R3 : RoomsAt C H3 p N A r' := Raw.off R2 (fun b o e nb => by rw [u3 b (by simpa using nb)]; exact e) (W := [lq]) (fun b hb => by simp at hb; subst hb; exact R.len hq0)
              have q3 : H3 lq = some (.lst (nN q)) := by rw [← e3]; exact upd_same
              have t3 : H3 lt = some (.lst (nI tr2)) := by rw [u3 _ nq]; exact ht2
              refine ⟨_, rfl, _, rfl, _, rfl, _, rfl, p, lq, N, A, r', q, s, rfl, R3, q3, fun j hj => hpl FS j (List.mem_append_left _ hj), ?_⟩
              refine ⟨lt, _, _, _, _, rfl, rfl, t3, rfl, ints_at (by rw [tr2l]; exact hvq), _, _, rfl, rfl, lt, _, _, _, rfl, rfl, t3, ixN_nat rfl (by rw [List.length_map, tr2l]; exact hvq), ?_⟩
              rw [ints_set]
              refine fin _ lq _ _ _ _ _ _ h1 (Nat.lt_of_lt_of_le h2 g2) (Raw.off R3 ((Kp.refl H3).upd (W := [lt]) (by simp)) (fun b hb => by simp at hb; subst hb; exact ltA)) upd_same (by rw [upd_ne (Ne.symm nq)]; exact q3) hq0 nq (fun b o e nb => ?_) _ (fun _ _ z => z)
              rw [upd_ne (ne_of_none e ht0'), u3 b (ne_of_none e hq0)]; exact k2 b o e nb
    · have c : ¬ b < most := fun z => c (decide_eq_true z)
      have := FS.bm
      exact ⟨_, rfl, k H' r' tr path b FS (by omega) R' kp⟩
end
end Px
set_option Elab.async false
set_option linter.all false
set_option maxRecDepth 100000
set_option maxHeartbeats 2000000
namespace Px
open PySem PySem.Spec PyProof.Rows L2
/-! ### fill -/
def spFill (C : Addr) : Sp := fun vs H Q _ => ∃ (p : Addr) (N : Pn.FN) (A : RA) (s t : Nat) (most : Int), vs = [.ref p, .int s, .int t, .int most] ∧ RoomsAt C H p N A (Pn.room0 N N.m) ∧ N.Good ∧ N.n ≤ 256 ∧ N.m ≤ 4096 ∧ s < N.n ∧ t < N.n ∧ s ≠ t ∧ 0 ≤ most ∧
  ∀ (H' : Hp) (r : List Int) (b : Int), Pn.Fill N s t r b most → Pn.Full N s t (Pn.Fl r) b most → Kp [A.lr] H H' → Q (.int b) H'
theorem scFill : FnScope ["rooms", "start", "goal", "most", "brought", "steps"] ["rooms", "start", "goal", "most"] (defScope sFill) := ⟨rfl, rfl, rfl, by decide +kernel, rfl, by decide +kernel, by decide +kernel⟩
section
variable {P : Program} {w : World} {K : PySem.W.Frag} {mg : Str → Option Value} {base : Heap}
theorem ok_fill {f C : Addr} {fd : FuncData} (F : Fun K "fill" "fill" sFill f fd) (T : TRoo K C)
    (GS : MF P w K mg base CX0 1 C "steps" ["self", "start", "other"] (spSteps C)) (GH : GF P w K mg base CX0 2 "fill_shortest" ["rooms", "steps", "start", "goal", "most"] (spShort C)) :
    FnOk P w K mg base CX0 3 f fd ["rooms", "start", "goal", "most"] (spFill C) := by
  obtain ⟨fS, fdS, GS, bS, mS⟩ := GS
  obtain ⟨fH, fdH, GH, bH, mH, kH⟩ := GH
  refine F.ok scFill (fun vs H Q E h => ?_) (fun cdv A outer s H vs Q E hr h => ?_)
  · obtain ⟨p, N, A, s, t, most, rfl, _⟩ := h
    rfl
  · obtain ⟨p, N, A, s, t, most, rfl, R, gd, hn, hm, hs, ht, hst, h0, k⟩ := h
    have nd := scFill.nd
    have hr1 : Room 1 _ := hr.mono (by decide)
    refine ⟨_, pss_cons (ps_set (i := 4) nd rfl (Or.inl rfl) pe_int)
      (pss_cons (ps_while PassesOwn.never (pt_cmpR op_lt (pv 4) (pv 3) (nomark _))
        (pss_cons (ps_set (i := 5) nd rfl (Or.inl rfl) (pe_meth (pv 0) T.cl mS GS hr1 bS .nil pass0 (pa_cons (pv 1) (pa_cons pe_int pa_nil))))
        (pss_cons (ps_if (pt_cmpR op_lt (pe_ix ix_list (pv 5) (pv 2) (fun _ _ => rfl)) pe_int (nomark _)) (pss_one ps_break) pss_nil)
        (pss_one (ps_aug (i := 4) nd rfl (Or.inl rfl) (pe_call GH hr rfl mH kH bH .nil pass0 (pa_cons (pv 0) (pa_cons (pv 5) (pa_cons (pv 1) (pa_cons (pv 2) (pa_cons (pe_op op_sub (pv 3) (pv 4)) pa_nil)))))) ip_add)))))
      (pss_one (ps_ret (pv 4)))), ?_⟩
    obtain ⟨W, hW⟩ : ∃ W : Nat → L2.St → Hp → Prop, ∀ m σ H', W m σ H' ↔ ∃ (v5 : Option V) (r : List Int) (b : Int), m = (most - b).toNat ∧ σ = [some (.ref p), some (.int s), some (.int t), some (.int most), some (.int b), v5] ∧ Pn.Fill N s t r b most ∧ RoomsAt C H' p N A r ∧ Kp [A.lr] H H' := ⟨_, fun _ _ _ => Iff.rfl⟩
    refine ⟨W, ⟨_, (hW _ _ _).mpr ⟨none, _, 0, rfl, rfl, Pn.fill_init gd h0, R, Kp.refl H⟩⟩, ?_⟩
    intro m σ H' hw
    obtain ⟨v5, r, b, rfl, rfl, FL, R', kp⟩ := (hW _ _ _).mp hw
    refine ⟨_, rfl, _, rfl, _, _, rfl, rfl, _, rfl, ite2 (fun c => ?_) (fun c => ?_)⟩
    · have c := of_decide_eq_true c
      refine ⟨fun σ' H'' => ∃ m', m' < (most - b).toNat ∧ W m' σ' H'', fun _ _ z => z, ?_⟩
      refine ⟨_, rfl, p, A.dx, _, rfl, R'.obj, by rfl, _, rfl, p, N, A, r, s, 0, rfl, R', FL.room.len, gd, hn, hs, .inl rfl, fun H2 l fo S hl hl0 s2 => ?_⟩
      have R2 : RoomsAt C H2 p N A r := Raw.same R' s2
      have k2 : Kp [A.lr] H H2 := kp.trans (fun b o e _ => s2 b o e)
      refine ⟨_, rfl, _, rfl, l, _, _, _, rfl, rfl, SqL.of hl, atI_ints (j := t) rfl (by rw [S.len]; exact ht), _, _, rfl, rfl, _, rfl, ite2 (fun d => ?_) (fun d => ?_)⟩
      · have d := of_decide_eq_true d
        exact ⟨_, rfl, k H2 r b FL (Pn.fill_cut gd FL S d) k2⟩
      · have d : ¬ Pn.g fo t < 0 := fun z => d (decide_eq_true z)
        refine ⟨_, rfl, _, rfl, _, rfl, _, rfl, _, rfl, _, rfl, _, rfl, _, _, rfl, rfl, p, l, N, A, r, fo, s, t, _, rfl, R2, FL.room, gd, hn, hm, hl, R'.len hl0, S, by omega, hs, ht, hst, by omega, fun H3 r3 tr path b3 FS b0 R3 k3 => ?_⟩
        have FL3 := Pn.fill_next FL FS
        exact ⟨_, _, rfl, rfl, _, (by omega : (most - (b + b3)).toNat < (most - b).toNat), (hW _ _ _).mpr ⟨_, r3, _, rfl, rfl, FL3, R3, k2.trans k3⟩⟩
    · have c : ¬ b < most := fun z => c (decide_eq_true z)
      exact ⟨_, rfl, k H' r b FL (Pn.fill_most FL c) kp⟩
end
end Px
set_option Elab.async false
set_option linter.all false
set_option maxRecDepth 100000
set_option maxHeartbeats 2000000
namespace Px
open PySem PySem.Spec PyProof.Rows L2
/-! ### put_in_order -/
def spPut : Sp := fun vs H Q _ => ∃ (l : Addr) (y : Int) (W : List Int), vs = [.ref l, .int y] ∧ H l = some (.lst (nI W)) ∧ W.Pairwise (· < ·) ∧ W.length < sizeLine ∧
  ∀ (A B : List Int), W = A ++ B → (∀ a, a ∈ A → a ≤ y) → (∀ b, b ∈ B → y < b) → Q .non (upd H l (.lst (nI (A ++ y :: B))))
theorem scPut : FnScope ["numbers", "number", "low", "high", "middle"] ["numbers", "number"] (defScope sPut) := ⟨rfl, rfl, rfl, by decide +kernel, rfl, by decide +kernel, by decide +kernel⟩
theorem pw_at {W : List Int} (hW : W.Pairwise (· < ·)) {i j : Nat} {a b : Int} (hi : W[i]? = some a) (hj : W[j]? = some b) (h : i ≤ j) : a ≤ b := by
  obtain ⟨h1, e1⟩ := List.getElem?_eq_some_iff.mp hi
  obtain ⟨h2, e2⟩ := List.getElem?_eq_some_iff.mp hj
  by_cases e : i = j
  · subst e; rw [hi] at hj; cases hj; exact Int.le_refl _
  · have := List.pairwise_iff_getElem.mp hW i j h1 h2 (by omega)
    rw [e1, e2] at this; omega
section
variable {P : Program} {w : World} {K : PySem.W.Frag} {mg : Str → Option Value} {base : Heap}
theorem ok_put {f : Addr} {fd : FuncData} (F : Fun K "put_in_order" "put_in_order" sPut f fd) (B : TB mg) : FnOk P w K mg base CX0 1 f fd ["numbers", "number"] spPut := by
  refine F.ok scPut (fun vs H Q E h => ?_) (fun cdv A outer s H vs Q E hr h => ?_)
  · obtain ⟨l, y, W, rfl, _⟩ := h
    rfl
  · obtain ⟨l, y, W, rfl, hl, hW, hz, k⟩ := h
    have nd := scPut.nd
    refine ⟨_, pss_cons (ps_set (i := 2) nd rfl (Or.inl rfl) pe_int)
      (pss_cons (ps_set (i := 3) nd rfl (Or.inl rfl) (pe_callB call_len_seq (by rfl) B.len PySem.boot_len (pa_cons (pv 0) pa_nil)))
      (pss_cons (ps_if (PW.pt (pw_and (pt_cmpR op_gt (pv 3) pe_int (nomark _)) (pw_and1 (pt_cmpR op_le (pe_ix ix_list (pv 0) (pe_un un_neg pe_int) (fun _ _ => rfl)) (pv 1) (nomark _))))) (pss_one (ps_set (i := 2) nd rfl (Or.inl rfl) (pv 3))) pss_nil)
      (pss_cons (ps_while PassesOwn.never (pt_cmpR op_lt (pv 2) (pv 3) (nomark _))
        (pss_cons (ps_set (i := 4) nd rfl (Or.inl rfl) (pe_op op_fdiv (pe_op op_add (pv 2) (pv 3)) pe_int))
        (pss_one (ps_if (pt_cmpR op_le (pe_ix ix_list (pv 0) (pv 4) (fun _ _ => rfl)) (pv 1) (nomark _)) (pss_one (ps_set (i := 2) nd rfl (Or.inl rfl) (pe_op op_add (pv 4) pe_int))) (pss_one (ps_set (i := 3) nd rfl (Or.inl rfl) (pv 4)))))))
      (pss_one (ps_expr (pe_bm PySem.F.plainAttrs_list PySem.F.slot_list_insert PySem.F.type_list_insert mt_insert (pv 0) (pa_cons (pv 2) (pa_cons (pv 1) pa_nil)))))))), ?_⟩
    refine ⟨_, rfl, l, _, rfl, .inl (SqL.of hl), ?_⟩
    rw [List.length_map]
    -- the while loop, from any low
    have loop : ∀ (i : Nat) (v4 : Option V), i ≤ W.length → (∀ (x : Nat) (a : Int), W[x]? = some a → x < i → a ≤ y) → (tSeq (tWhile (tTest (tOp (rI0 fun i j => .bl (decide (i < j))) (tVar 2) (tVar 3))) (tSeq (tAsg (tOp (rI CDiv fun i j => .int (i / j)) (tOp (rI0 fun i j => .int (i + j)) (tVar 2) (tVar 3)) (tC (.int 2))) (gName 4)) (tIfS (tTest (tOp (rI0 fun i j => .bl (decide (i ≤ j))) (tOp (rIxL K) (tVar 0) (tVar 4)) (tVar 1))) (tAsg (tOp (rI0 fun i j => .int (i + j)) (tVar 4) (tC (.int 1))) (gName 2)) (tAsg (tVar 4) (gName 3))))) (tDrop (tBM K "list" rInsert (tVar 0) (tCons (tVar 2) (tCons (tVar 1) tNil))))) { nx := fun _ H' => Q .non H', rt := Q } [some (.ref l), some (.int y), some (.int i), some (.int W.length), v4] H := ?loop
    case loop =>
      intro i v4 hi lo
      obtain ⟨Wd, hWd⟩ : ∃ Wd : Nat → L2.St → Hp → Prop, ∀ m σ H', Wd m σ H' ↔ ∃ (v4 : Option V) (lo hi : Nat), m = hi - lo ∧ lo ≤ hi ∧ hi ≤ W.length ∧ σ = [some (.ref l), some (.int y), some (.int lo), some (.int hi), v4] ∧ H' = H ∧ (∀ (x : Nat) (a : Int), W[x]? = some a → x < lo → a ≤ y) ∧ (∀ (x : Nat) (a : Int), W[x]? = some a → hi ≤ x → y < a) := ⟨_, fun _ _ _ => Iff.rfl⟩
      refine ⟨Wd, ⟨_, (hWd _ _ _).mpr ⟨v4, i, W.length, rfl, hi, Nat.le_refl _, rfl, rfl, lo, fun x a e hx => ?_⟩⟩, ?_⟩
      · have := (List.getElem?_eq_some_iff.mp e).1; omega
      · intro m σ H' hw
        obtain ⟨v4, lo, hi, rfl, h1, h2, rfl, rfl, h3, h4⟩ := (hWd _ _ _).mp hw
        refine ⟨_, rfl, _, rfl, _, _, rfl, rfl, _, rfl, ite2 (fun c => ?_) (fun c => ?_)⟩
        · have c := of_decide_eq_true c
          refine ⟨fun σ' H'' => ∃ m', m' < hi - lo ∧ Wd m' σ' H'', fun _ _ z => z, ?_⟩
          have em : ((lo : Int) + (hi : Int)) / 2 = (((lo + hi) / 2 : Nat) : Int) := by omega
          refine ⟨_, rfl, _, rfl, _, _, rfl, rfl, _, _, rfl, rfl, ⟨by decide, by decide⟩, ?_⟩
          dsimp only
          rw [em]
          have hmid : (lo + hi) / 2 < W.length := by omega
          refine ⟨_, rfl, _, rfl, l, _, _, _, rfl, rfl, SqL.of hl, atI_ints (j := (lo + hi) / 2) rfl hmid, _, rfl, _, _, rfl, rfl, _, rfl, ite2 (fun d => ?_) (fun d => ?_)⟩
          · have d := of_decide_eq_true d
            refine ⟨_, rfl, _, _, rfl, rfl, hi - ((lo + hi) / 2 + 1), by omega, (hWd _ _ _).mpr ⟨_, (lo + hi) / 2 + 1, hi, rfl, by omega, h2, rfl, rfl, fun x a e hx => ?_, h4⟩⟩
            have := pw_at hW e (Pn.g_some hmid) (by omega)
            omega
          · have d : ¬ Pn.g W ((lo + hi) / 2) ≤ y := fun z => d (decide_eq_true z)
            refine ⟨_, rfl, (lo + hi) / 2 - lo, by omega, (hWd _ _ _).mpr ⟨_, lo, (lo + hi) / 2, rfl, by omega, by omega, rfl, rfl, h3, fun x a e hx => ?_⟩⟩
            have := pw_at hW (Pn.g_some hmid) e hx
            omega
        · have c : ¬ ((lo : Int) < (hi : Int)) := fun z => c (decide_eq_true z)
          have e : lo = hi := by omega
          subst e
          refine ⟨_, rfl, tyL hl, _, rfl, _, rfl, l, _, _, _, rfl, rfl, hl, by omega, by rw [List.length_map]; omega, by rw [List.length_map]; exact hz, ?_⟩
          have ei : insL (nI W) (lo : Int) (V.int y) = nI (W.take lo ++ y :: W.drop lo) := by
            unfold insL nI
            rw [Int.toNat_natCast, List.map_append, List.map_cons, List.map_take, List.map_drop]
          rw [ei]
          refine k _ _ (List.take_append_drop lo W).symm (fun a ha => ?_) (fun b hb => ?_)
          · obtain ⟨x, hx, e⟩ := List.getElem_of_mem ha
            rw [List.length_take] at hx
            rw [List.getElem_take] at e
            exact h3 x a (by rw [← e]; exact List.getElem?_eq_getElem _) (by omega)
          · obtain ⟨x, hx, e⟩ := List.getElem_of_mem hb
            rw [List.getElem_drop] at e
            exact h4 (lo + x) b (by rw [← e]; exact List.getElem?_eq_getElem _) (by omega)
    refine ⟨_, rfl, _, _, rfl, rfl, _, rfl, ite2 (fun c => ?_) (fun c => ?_)⟩
    · have c := of_decide_eq_true c
      have hne : 0 < W.length := by omega
      have el : W[W.length - 1]? = some (Pn.g W (W.length - 1)) := Pn.g_some (by omega)
      refine ⟨_, rfl, _, rfl, l, _, _, V.int (Pn.g W (W.length - 1)), rfl, rfl, SqL.of hl, ?_, _, rfl, _, _, rfl, rfl, _, rfl, ite2 (fun d => ?_) (fun d => ?_)⟩
      · have e1 : atI (nI W) (-1) = (nI W)[(nI W).length - 1]? := by
          unfold atI ixN
          rw [if_neg (by decide), if_pos (by rw [List.length_map]; omega)]
          show (nI W)[((-1 : Int) + ((nI W).length : Int)).toNat]? = _
          congr 1
          rw [List.length_map]; omega
        rw [e1, List.length_map, List.getElem?_map, el]; rfl
      · have d := of_decide_eq_true d
        refine ⟨_, rfl, ?_⟩
        exact loop W.length _ (Nat.le_refl _) (fun x a e hx => by
          have := pw_at hW e el (by omega)
          omega)
      · exact loop 0 _ (Nat.zero_le _) (fun x a e hx => by omega)
    · exact iteF (loop 0 _ (Nat.zero_le _) (fun x a e hx => by omega))
end
end Px
set_option Elab.async false
set_option linter.all false
set_option maxRecDepth 100000
set_option maxHeartbeats 2000000
namespace Px
open PySem PySem.Spec PyProof.Rows L2
/-! ### a carrier, a search -/
def cf (p lh lx : Addr) : List (Str × V) := [("rooms", .ref p), ("heights", .ref lh), ("extra", .ref lx)]
def sf (p lh lx : Addr) (P : Int) (ld le lS lW : Addr) : List (Str × V) := [("rooms", .ref p), ("heights", .ref lh), ("extra", .ref lx), ("portion", .int P), ("distances", .ref ld), ("entries", .ref le), ("settled", .ref lS), ("waiting", .ref lW)]
structure TCar (K : PySem.W.Frag) (C : Addr) : Prop where
  cl : Cls K C
  nRooms : NoAttr K C "rooms"
  nHeights : NoAttr K C "heights"
  nExtra : NoAttr K C "extra"
structure TSea (K : PySem.W.Frag) (C : Addr) : Prop where
  cl : Cls K C
  nRooms : NoAttr K C "rooms"
  nHeights : NoAttr K C "heights"
  nExtra : NoAttr K C "extra"
  nPortion : NoAttr K C "portion"
  nDistances : NoAttr K C "distances"
  nEntries : NoAttr K C "entries"
  nSettled : NoAttr K C "settled"
  nWaiting : NoAttr K C "waiting"
section
variable {p lh lx ld le lS lW : Addr} {P : Int}
theorem cf_rooms : (cf p lh lx).lookup ("rooms" : Str) = some (.ref p) := by rfl
theorem cf_heights : (cf p lh lx).lookup ("heights" : Str) = some (.ref lh) := by rfl
theorem cf_extra : (cf p lh lx).lookup ("extra" : Str) = some (.ref lx) := by rfl
theorem sf_rooms : (sf p lh lx P ld le lS lW).lookup ("rooms" : Str) = some (.ref p) := by rfl
theorem sf_heights : (sf p lh lx P ld le lS lW).lookup ("heights" : Str) = some (.ref lh) := by rfl
theorem sf_extra : (sf p lh lx P ld le lS lW).lookup ("extra" : Str) = some (.ref lx) := by rfl
theorem sf_portion : (sf p lh lx P ld le lS lW).lookup ("portion" : Str) = some (.int P) := by rfl
theorem sf_distances : (sf p lh lx P ld le lS lW).lookup ("distances" : Str) = some (.ref ld) := by rfl
theorem sf_entries : (sf p lh lx P ld le lS lW).lookup ("entries" : Str) = some (.ref le) := by rfl
theorem sf_settled : (sf p lh lx P ld le lS lW).lookup ("settled" : Str) = some (.ref lS) := by rfl
theorem sf_waiting : (sf p lh lx P ld le lS lW).lookup ("waiting" : Str) = some (.ref lW) := by rfl
end
structure SD where
  dx : Addr
  p : Addr
  lh : Addr
  lx : Addr
  ld : Addr
  le : Addr
  lS : Addr
  lW : Addr
/-- a search stands at q -/
structure SeaAt (Cs Cr : Addr) (H : Hp) (q : Addr) (D : SD) (N : Pn.FN) (A : RA) (P : Int) (r h x dl en : List Int) (S : List Nat) (W : List Int) : Prop where
  obj : H q = some (.ins Cs D.dx (sf D.p D.lh D.lx P D.ld D.le D.lS D.lW))
  rooms : RoomsAt Cr H D.p N A r
  hts : H D.lh = some (.lst (nI h))
  ext : H D.lx = some (.lst (nI x))
  dis : H D.ld = some (.lst (nI dl))
  ent : H D.le = some (.lst (nI en))
  set : H D.lS = some (.lst (nN S))
  wai : H D.lW = some (.lst (nI W))
  nd : (q :: D.ld :: D.le :: D.lS :: D.lW :: D.lh :: D.lx :: D.p :: A.all).Nodup
structure SeaNe (q : Addr) (D : SD) (A : RA) : Prop where
  q1 : q ≠ D.ld
  q2 : q ≠ D.le
  q3 : q ≠ D.lS
  q4 : q ≠ D.lW
  de : D.ld ≠ D.le
  dS : D.ld ≠ D.lS
  dW : D.ld ≠ D.lW
  dh : D.ld ≠ D.lh
  dx : D.ld ≠ D.lx
  eS : D.le ≠ D.lS
  eW : D.le ≠ D.lW
  eh : D.le ≠ D.lh
  ex : D.le ≠ D.lx
  SW : D.lS ≠ D.lW
  Sh : D.lS ≠ D.lh
  Sx : D.lS ≠ D.lx
  Wh : D.lW ≠ D.lh
  Wx : D.lW ≠ D.lx
  dA : D.ld ∉ D.p :: A.all
  eA : D.le ∉ D.p :: A.all
  SA : D.lS ∉ D.p :: A.all
  WA : D.lW ∉ D.p :: A.all
theorem SeaAt.ne {Cs Cr : Addr} {H : Hp} {q : Addr} {D : SD} {N : Pn.FN} {A : RA} {P : Int} {r h x dl en : List Int} {S : List Nat} {W : List Int} (Z : SeaAt Cs Cr H q D N A P r h x dl en S W) : SeaNe q D A := by
  have nd := Z.nd
  rw [List.nodup_cons, List.nodup_cons, List.nodup_cons, List.nodup_cons, List.nodup_cons] at nd
  obtain ⟨a, b, c, d, e, _⟩ := nd
  have f : ∀ {y z : Addr} {l : List Addr}, y ∉ z :: l → y ≠ z ∧ y ∉ l := fun h => by rw [List.mem_cons, not_or] at h; exact h
  obtain ⟨a1, a⟩ := f a
  obtain ⟨a2, a⟩ := f a
  obtain ⟨a3, a⟩ := f a
  obtain ⟨a4, a⟩ := f a
  obtain ⟨b1, b⟩ := f b
  obtain ⟨b2, b⟩ := f b
  obtain ⟨b3, b⟩ := f b
  obtain ⟨b4, b⟩ := f b
  obtain ⟨b5, b⟩ := f b
  obtain ⟨c1, c⟩ := f c
  obtain ⟨c2, c⟩ := f c
  obtain ⟨c3, c⟩ := f c
  obtain ⟨c4, c⟩ := f c
  obtain ⟨d1, d⟩ := f d
  obtain ⟨d2, d⟩ := f d
  obtain ⟨d3, d⟩ := f d
  obtain ⟨e1, e⟩ := f e
  obtain ⟨e2, e⟩ := f e
  exact ⟨a1, a2, a3, a4, b1, b2, b3, b4, b5, c1, c2, c3, c4, d1, d2, d3, e1, e2, b, c, d, e⟩
section
variable {Cs Cr : Addr} {H H' : Hp} {q : Addr} {D : SD} {N : Pn.FN} {A : RA} {P : Int} {r h x dl en dl' en' : List Int} {S S' : List Nat} {W W' : List Int}
theorem SeaAt.setD (Z : SeaAt Cs Cr H q D N A P r h x dl en S W) : SeaAt Cs Cr (upd H D.ld (.lst (nI dl'))) q D N A P r h x dl' en S W := by
  have n := Z.ne
  refine ⟨?_, Raw.off Z.rooms ((Kp.refl H).upd (W := [D.ld]) (by simp)) (fun b hb => by simp at hb; subst hb; exact n.dA), ?_, ?_, upd_same, ?_, ?_, ?_, Z.nd⟩
  · rw [upd_ne n.q1]; exact Z.obj
  · rw [upd_ne (Ne.symm n.dh)]; exact Z.hts
  · rw [upd_ne (Ne.symm n.dx)]; exact Z.ext
  · rw [upd_ne (Ne.symm n.de)]; exact Z.ent
  · rw [upd_ne (Ne.symm n.dS)]; exact Z.set
  · rw [upd_ne (Ne.symm n.dW)]; exact Z.wai
theorem SeaAt.setE (Z : SeaAt Cs Cr H q D N A P r h x dl en S W) : SeaAt Cs Cr (upd H D.le (.lst (nI en'))) q D N A P r h x dl en' S W := by
  have n := Z.ne
  refine ⟨?_, Raw.off Z.rooms ((Kp.refl H).upd (W := [D.le]) (by simp)) (fun b hb => by simp at hb; subst hb; exact n.eA), ?_, ?_, ?_, upd_same, ?_, ?_, Z.nd⟩
  · rw [upd_ne n.q2]; exact Z.obj
  · rw [upd_ne (Ne.symm n.eh)]; exact Z.hts
  · rw [upd_ne (Ne.symm n.ex)]; exact Z.ext
  · rw [upd_ne n.de]; exact Z.dis
  · rw [upd_ne (Ne.symm n.eS)]; exact Z.set
  · rw [upd_ne (Ne.symm n.eW)]; exact Z.wai
theorem SeaAt.setS (Z : SeaAt Cs Cr H q D N A P r h x dl en S W) : SeaAt Cs Cr (upd H D.lS (.lst (nN S'))) q D N A P r h x dl en S' W := by
  have n := Z.ne
  refine ⟨?_, Raw.off Z.rooms ((Kp.refl H).upd (W := [D.lS]) (by simp)) (fun b hb => by simp at hb; subst hb; exact n.SA), ?_, ?_, ?_, ?_, upd_same, ?_, Z.nd⟩
  · rw [upd_ne n.q3]; exact Z.obj
  · rw [upd_ne (Ne.symm n.Sh)]; exact Z.hts
  · rw [upd_ne (Ne.symm n.Sx)]; exact Z.ext
  · rw [upd_ne n.dS]; exact Z.dis
  · rw [upd_ne n.eS]; exact Z.ent
  · rw [upd_ne (Ne.symm n.SW)]; exact Z.wai
theorem SeaAt.setW (Z : SeaAt Cs Cr H q D N A P r h x dl en S W) : SeaAt Cs Cr (upd H D.lW (.lst (nI W'))) q D N A P r h x dl en S W' := by
  have n := Z.ne
  refine ⟨?_, Raw.off Z.rooms ((Kp.refl H).upd (W := [D.lW]) (by simp)) (fun b hb => by simp at hb; subst hb; exact n.WA), ?_, ?_, ?_, ?_, ?_, upd_same, Z.nd⟩
  · rw [upd_ne n.q4]; exact Z.obj
  · rw [upd_ne (Ne.symm n.Wh)]; exact Z.hts
  · rw [upd_ne (Ne.symm n.Wx)]; exact Z.ext
  · rw [upd_ne n.dW]; exact Z.dis
  · rw [upd_ne n.eW]; exact Z.ent
  · rw [upd_ne n.SW]; exact Z.set
theorem SeaAt.same (Z : SeaAt Cs Cr H q D N A P r h x dl en S W) (k : Same H H') : SeaAt Cs Cr H' q D N A P r h x dl en S W :=
  ⟨k _ _ Z.obj, Raw.same Z.rooms k, k _ _ Z.hts, k _ _ Z.ext, k _ _ Z.dis, k _ _ Z.ent, k _ _ Z.set, k _ _ Z.wai, Z.nd⟩
end
/-- what of the text is a number -/
structure TN (mg : Str → Option Value) : Prop where
  span : ∃ t, mg "SPAN" = some (Value.int 256 t)
  grain : ∃ t, mg "GRAIN" = some (Value.int 16 t)
/-! ### Search.path_to -/
def spPath (Cs Cr : Addr) : Sp := fun vs H Q _ => ∃ (q : Addr) (D : SD) (N : Pn.FN) (A : RA) (P : Int) (r h x dl en : List Int) (S : List Nat) (W : List Int) (v src : Nat) (path : List Nat), vs = [.ref q, .int v] ∧ SeaAt Cs Cr H q D N A P r h x dl en S W ∧ N.Good ∧ en.length = N.n ∧ v < N.n ∧ Pn.BP N en v path src ∧ path.length ≤ 256 ∧
  ∀ (H' : Hp) (l : Addr), H' l = some (.lst (nN path)) → H l = none → Same H H' → Q (.ref l) H'
theorem scPath : FnScope ["self", "goal", "path", "lane"] ["self", "goal"] (defScope sPath) := ⟨rfl, rfl, rfl, by decide +kernel, rfl, by decide +kernel, by decide +kernel⟩
section
variable {P : Program} {w : World} {K : PySem.W.Frag} {mg : Str → Option Value} {base : Heap}
theorem ok_path {f Cs Cr : Addr} {fd : FuncData} (F : Fun K "path_to" "Search.path_to" sPath f fd) (T : TSea K Cs) (TR : TRoo K Cr) : FnOk P w K mg base CX0 1 f fd ["self", "goal"] (spPath Cs Cr) := by
  refine F.ok scPath (fun vs H Q E h => ?_) (fun cdv A outer s H vs Q E hr h => ?_)
  · obtain ⟨q, D, N, A, P, r, h, x, dl, en, S, W, v, src, path, rfl, _⟩ := h
    rfl
  · obtain ⟨q, D, N, A, P, r, h, x, dl, en, S, W, v, src, path, rfl, Z, gd, hel, hv, bp, hpl, k⟩ := h
    have nd := scPath.nd
    refine ⟨_, pss_cons (ps_set (i := 2) nd rfl (Or.inl rfl) (pe_lst pa_nil))
      (pss_cons (ps_set (i := 3) nd rfl (Or.inl rfl) (pe_ix ix_list (pe_fld (pv 0) rfl) (pv 1) (fun _ _ => rfl)))
      (pss_cons (ps_while PassesOwn.never (pt_cmpR op_ge (pv 3) pe_int (nomark _))
        (pss_cons (ps_expr (pe_bm PySem.F.plainAttrs_list PySem.F.slot_list_append PySem.F.type_list_append mt_append (pv 2) (pa_cons (pv 3) pa_nil)))
        (pss_one (ps_set (i := 3) nd rfl (Or.inl rfl) (pe_ix ix_list (pe_fld (pv 0) rfl) (pe_ix ix_list (pe_fld (pe_fld (pv 0) rfl) rfl) (pe_op op_xor (pv 3) pe_int) (fun _ _ => rfl)) (fun _ _ => rfl))))))
      (pss_one (ps_ret (pv 2))))), ?_⟩
    refine ⟨Nat.zero_le _, fun l hl => ?_⟩
    have s1 : Same H (upd H l (.lst [])) := fun b o e => by rw [upd_ne (ne_of_none e hl)]; exact e
    refine ⟨_, rfl, q, Cs, D.dx, _, _, rfl, s1 _ _ Z.obj, T.cl, T.nEntries, sf_entries, _, rfl, D.le, _, _, _, rfl, rfl, SqL.of (s1 _ _ Z.ent), atI_ints (j := v) rfl (by rw [hel]; exact hv), ?_⟩
    obtain ⟨Wd, hWd⟩ : ∃ Wd : Nat → L2.St → Hp → Prop, ∀ m σ H', Wd m σ H' ↔ ∃ (dn rest : List Nat) (u : Nat), m = rest.length ∧ σ = [some (.ref q), some (.int v), some (.ref l), some (.int (Pn.g en u))] ∧ u < N.n ∧ path = dn ++ rest ∧ Pn.BP N en u rest src ∧ H' l = some (.lst (nN dn)) ∧ Same H H' := ⟨_, fun _ _ _ => Iff.rfl⟩
    refine ⟨Wd, ⟨_, (hWd _ _ _).mpr ⟨[], path, v, rfl, rfl, hv, rfl, bp, upd_same, s1⟩⟩, ?_⟩
    intro m σ H' hw
    obtain ⟨dn, rest, u, rfl, rfl, hu, hp, bp, hl', sm⟩ := (hWd _ _ _).mp hw
    refine ⟨_, rfl, _, _, rfl, rfl, _, rfl, ite2 (fun c => ?_) (fun c => ?_)⟩
    · have c := of_decide_eq_true c
      refine ⟨fun σ' H'' => ∃ m', m' < rest.length ∧ Wd m' σ' H'', fun _ _ z => z, ?_⟩
      cases bp with
      | nil _ e => omega
      | @cons j _ rest' _ hj hjv e bp =>
        have dl : dn.length < 256 := by rw [hp, List.length_append, List.length_cons] at hpl; omega
        refine ⟨_, rfl, tyL hl', _, rfl, l, _, _, rfl, rfl, hl', by rw [List.length_map, sizeLine_eq]; omega, ?_⟩
        rw [e, nN_snoc]
        have sm2 : Same H (upd H' l (.lst (nN (dn ++ [j])))) := fun b o z => by rw [upd_ne (ne_of_none z hl)]; exact sm b o z
        have Z2 := Z.same sm2
        have htl := Pn.tl_lt gd hj
        have ehd : Pn.g (hdL N) (Pn.ot j) = ((Pn.tl N j : Nat) : Int) := by rw [g_hdL (Pn.ot_lt hj), Pn.hd_ot]
        refine ⟨_, rfl, q, Cs, D.dx, _, _, rfl, Z2.obj, T.cl, T.nEntries, sf_entries, _, rfl, q, Cs, D.dx, _, _, rfl, Z2.obj, T.cl, T.nRooms, sf_rooms, D.p, Cr, A.dx, _, _, rfl, Z2.rooms.obj, TR.cl, TR.nHeads, rf_heads, _, rfl, _, _, rfl, rfl, A.lh, _, _, _, rfl, rfl, SqL.of Z2.rooms.heads, atI_ints (j := Pn.ot j) (xor1 j) (by rw [hdL_len]; exact Pn.ot_lt hj), D.le, _, _, _, rfl, rfl, SqL.of Z2.ent, atI_ints (j := Pn.tl N j) ehd (by rw [hel]; exact htl), ?_⟩
        exact ⟨rest'.length, Nat.lt_succ_self _, (hWd _ _ _).mpr ⟨dn ++ [j], rest', Pn.tl N j, rfl, rfl, htl, by rw [hp, List.append_assoc]; rfl, bp, upd_same, sm2⟩⟩
    · have c : ¬ ((0 : Int) ≤ Pn.g en u) := fun z => c (decide_eq_true z)
      cases bp with
      | nil _ e =>
        rw [List.append_nil] at hp
        subst hp
        exact ⟨_, rfl, k H' l hl' hl sm⟩
      | @cons j _ rest' _ hj hjv e bp => omega
end
end Px
set_option Elab.async false
set_option linter.all false
set_option maxRecDepth 100000
set_option maxHeartbeats 2000000
namespace Px
open PySem PySem.Spec PyProof.Rows L2
/-! ### Search.look_on -/
def spLook (Cs Cr : Addr) : Sp := fun vs H Q _ => ∃ (q : Addr) (D : SD) (N : Pn.FN) (A : RA) (P : Int) (r h x dl en : List Int) (S : List Nat) (W : List Int) (d : Int) (v : Nat), vs = [.ref q, .int v] ∧ SeaAt Cs Cr H q D N A P r h x dl en S W ∧ N.Good ∧ N.n ≤ 256 ∧ 0 < P ∧ h.length = N.n ∧ r.length = 2 * N.m ∧
  Pn.Dj N P r h x dl en S W d [v] ∧ v ∈ S ∧ Pn.g dl v = d ∧ Pn.Red N P r h ∧ W.length + (Pn.lanesOf N v).length < sizeLine ∧
  ∀ (H' : Hp) (dl' en' W' : List Int), SeaAt Cs Cr H' q D N A P r h x dl' en' S W' → Pn.Dj N P r h x dl' en' S W' d [v] → Pn.g dl' v = d → (∀ j, j ∈ Pn.lanesOf N v → P ≤ Pn.g r j → 0 ≤ Pn.g dl' (Pn.hd N j) ∧ Pn.g dl' (Pn.hd N j) ≤ d + Pn.rc N h j) →
    W'.length ≤ W.length + (Pn.lanesOf N v).length → Kp [D.ld, D.le, D.lW] H H' → Q .non H'
theorem scLook : FnScope ["self", "place", "rooms", "base", "lane", "head", "distance"] ["self", "place"] (defScope sLook) := ⟨rfl, rfl, rfl, by decide +kernel, rfl, by decide +kernel, by decide +kernel⟩
section
variable {P : Program} {w : World} {K : PySem.W.Frag} {mg : Str → Option Value} {base : Heap}
theorem ok_look {f Cs Cr : Addr} {fd : FuncData} (F : Fun K "look_on" "Search.look_on" sLook f fd) (T : TSea K Cs) (TR : TRoo K Cr) (TM : TN mg) (GP : GF P w K mg base CX0 1 "put_in_order" ["numbers", "number"] spPut) :
    FnOk P w K mg base CX0 2 f fd ["self", "place"] (spLook Cs Cr) := by
  obtain ⟨fP, fdP, GP, bP, mP, kP⟩ := GP
  obtain ⟨ts, hspan⟩ := TM.span
  refine F.ok scLook (fun vs H Q E h => ?_) (fun cdv A outer s H vs Q E hr h => ?_)
  · obtain ⟨q, D, N, A, P, r, h, x, dl, en, S, W, d, v, rfl, _⟩ := h
    rfl
  · obtain ⟨q, D, N, A, P, r, h, x, dl0, en0, S, W0, d, v, rfl, Z, gd, hn, hP, hhl, hrl, J0, hvS, hvd, rd, hwz, k⟩ := h
    have nd := scLook.nd
    refine ⟨_, pss_cons (ps_set (i := 2) nd rfl (Or.inl rfl) (pe_fld (pv 0) rfl))
      (pss_cons (ps_set (i := 3) nd rfl (Or.inl rfl) (pe_op op_add (pe_ix ix_list (pe_fld (pv 0) rfl) (pv 1) (fun _ _ => rfl)) (pe_ix ix_list (pe_fld (pv 0) rfl) (pv 1) (fun _ _ => rfl))))
      (pss_one (ps_for PassesOwn.never rfl (pi_list (pe_ix ix_list (pe_fld (pv 2) rfl) (pv 1) (fun _ _ => rfl))) (pg_name (i := 4) nd rfl (Or.inl rfl))
        (pss_one (ps_if (pt_cmpR op_ge (pe_ix ix_list (pe_fld (pv 2) rfl) (pv 4) (fun _ _ => rfl)) (pe_fld (pv 0) rfl) (nomark _))
          (pss_cons (ps_set (i := 5) nd rfl (Or.inl rfl) (pe_ix ix_list (pe_fld (pv 2) rfl) (pv 4) (fun _ _ => rfl)))
          (pss_cons (ps_set (i := 6) nd rfl (Or.inl rfl) (pe_op op_sub (pe_op op_add (pv 3) (pe_ix ix_list (pe_fld (pv 2) rfl) (pv 4) (fun _ _ => rfl))) (pe_ix ix_list (pe_fld (pv 0) rfl) (pv 5) (fun _ _ => rfl))))
          (pss_one (ps_if (PW.pt (pw_or (pt_cmpR op_lt (pe_ix ix_list (pe_fld (pv 0) rfl) (pv 5) (fun _ _ => rfl)) pe_int (nomark _)) (pw_or1 (pt_cmpR op_lt (pv 6) (pe_ix ix_list (pe_fld (pv 0) rfl) (pv 5) (fun _ _ => rfl)) (nomark _)))))
            (pss_cons (ps_asg (pv 6) (pg_sub (pe_fld (pv 0) rfl) (pv 5) set_list))
            (pss_cons (ps_asg (pv 4) (pg_sub (pe_fld (pv 0) rfl) (pv 5) set_list))
            (pss_one (ps_expr (pe_call GP hr rfl mP kP bP .nil pass0 (pa_cons (pe_fld (pv 0) rfl) (pa_cons (pe_un un_neg (pe_op op_add (pe_op op_mul (pv 6) (pe_glob (v := V.int 256) rfl hspan ⟨_, rfl⟩)) (pv 5))) pa_nil)))))))
            pss_nil))))
          pss_nil))))), ?_⟩
    have hv := (J0.slt v hvS).1
    refine ⟨_, rfl, q, Cs, D.dx, _, _, rfl, Z.obj, T.cl, T.nRooms, sf_rooms, ?_⟩
    refine ⟨_, rfl, q, Cs, D.dx, _, _, rfl, Z.obj, T.cl, T.nDistances, sf_distances, _, rfl, D.ld, _, _, _, rfl, rfl, SqL.of Z.dis, atI_ints (j := v) rfl (by rw [J0.dlen]; exact hv), _, rfl, q, Cs, D.dx, _, _, rfl, Z.obj, T.cl, T.nHeights, sf_heights, _, rfl, D.lh, _, _, _, rfl, rfl, SqL.of Z.hts, atI_ints (j := v) rfl (by rw [hhl]; exact hv), _, _, rfl, rfl, ?_⟩
    dsimp only
    rw [hvd]
    obtain ⟨la, hla⟩ : ∃ la, A.ls[v]? = some la := ⟨_, List.getElem?_eq_getElem (by rw [Z.rooms.lsl]; exact hv)⟩
    refine ⟨_, rfl, D.p, Cr, A.dx, _, _, rfl, Z.rooms.obj, TR.cl, TR.nLanes, rf_lanes, _, rfl, A.ll, _, _, _, rfl, rfl, SqL.of Z.rooms.lanes, at_of (j := v) (v := V.ref la) rfl (by rw [List.getElem?_map, hla]; rfl), la, rfl, ⟨_, SqL.of (Z.rooms.lane v la hla)⟩, ?_⟩
    have hmem : ∀ b, b ∈ [D.ld, D.le, D.lW] → b ∉ D.p :: A.all := fun b hb => by
      have n := Z.ne
      simp only [List.mem_cons, List.not_mem_nil, or_false] at hb
      rcases hb with z | z | z <;> rw [z]
      · exact n.dA
      · exact n.eA
      · exact n.WA
    refine for_list (K := K) (a := la) (xs := nN (Pn.lanesOf N v)) (fun i σ H' => ∃ (v4 v5 v6 : Option V) (dl en W : List Int), σ = [some (.ref q), some (.int v), some (.ref D.p), some (.int (d + Pn.g h v)), v4, v5, v6] ∧ SeaAt Cs Cr H' q D N A P r h x dl en S W ∧ Pn.Dj N P r h x dl en S W d [v] ∧ Pn.g dl v = d ∧
      (∀ (i' j : Nat), i' < i → (Pn.lanesOf N v)[i']? = some j → P ≤ Pn.g r j → 0 ≤ Pn.g dl (Pn.hd N j) ∧ Pn.g dl (Pn.hd N j) ≤ d + Pn.rc N h j) ∧ W.length ≤ W0.length + i ∧ Kp [D.ld, D.le, D.lW] H H')
      ⟨none, none, none, dl0, en0, W0, rfl, Z, J0, hvd, fun i' j h => (by omega), by omega, Kp.refl H⟩ (fun i σ H' _ ⟨_, _, _, _, _, _, _, z, _⟩ => SqL.of (z.rooms.lane v la hla)) ?_ ?_
    · rintro i y σ H' hi ⟨v4, v5, v6, dl, en, W, rfl, Z1, J, hvd1, seen, hwl, kp⟩
      obtain ⟨j, hj, rfl⟩ := nN_at' hi
      have hjm := List.mem_of_getElem? hj
      obtain ⟨hj2, hjt⟩ := Pn.mem_lanes.mp hjm
      have hhd := Pn.hd_lt gd hj2
      have hil : i < (Pn.lanesOf N v).length := (List.getElem?_eq_some_iff.mp hj).1
      have R1 := Z1.rooms
      have stay : (P ≤ Pn.g r j → 0 ≤ Pn.g dl (Pn.hd N j) ∧ Pn.g dl (Pn.hd N j) ≤ d + Pn.rc N h j) → ∀ (v5 v6 : Option V), ∃ (v4 v5' v6' : Option V) (dl en W : List Int), ([some (.ref q), some (.int v), some (.ref D.p), some (.int (d + Pn.g h v)), some (.int j), v5, v6] : L2.St) = [some (.ref q), some (.int v), some (.ref D.p), some (.int (d + Pn.g h v)), v4, v5', v6'] ∧ SeaAt Cs Cr H' q D N A P r h x dl en S W ∧ Pn.Dj N P r h x dl en S W d [v] ∧ Pn.g dl v = d ∧
          (∀ (i' j : Nat), i' < i + 1 → (Pn.lanesOf N v)[i']? = some j → P ≤ Pn.g r j → 0 ≤ Pn.g dl (Pn.hd N j) ∧ Pn.g dl (Pn.hd N j) ≤ d + Pn.rc N h j) ∧ W.length ≤ W0.length + (i + 1) ∧ Kp [D.ld, D.le, D.lW] H H' := by
        intro hh v5 v6
        refine ⟨_, v5, v6, dl, en, W, rfl, Z1, J, hvd1, fun i' j' h1 h2 h3 => ?_, by omega, kp⟩
        by_cases e : i' < i
        · exact seen i' j' e h2 h3
        · have : i' = i := by omega
          subst this
          have : j' = j := Option.some.inj (h2.symm.trans hj)
          subst this
          exact hh h3
      refine ⟨_, rfl, D.p, Cr, A.dx, _, _, rfl, R1.obj, TR.cl, TR.nRoom, rf_room, _, rfl, A.lr, _, _, _, rfl, rfl, SqL.of R1.room, atI_ints (j := j) rfl (by rw [hrl]; exact hj2), _, rfl, q, Cs, D.dx, _, _, rfl, Z1.obj, T.cl, T.nPortion, sf_portion, _, _, rfl, rfl, _, rfl, ite2 (fun c => ?_) (fun c => ?_)⟩
      · have c := of_decide_eq_true c
        have rc0 := rd j hj2 c
        refine ⟨_, rfl, D.p, Cr, A.dx, _, _, rfl, R1.obj, TR.cl, TR.nHeads, rf_heads, _, rfl, A.lh, _, _, _, rfl, rfl, SqL.of R1.heads, atI_ints (j := j) rfl (by rw [hdL_len]; exact hj2), ?_⟩
        rw [g_hdL hj2]
        refine ⟨_, rfl, _, rfl, D.p, Cr, A.dx, _, _, rfl, R1.obj, TR.cl, TR.nPrices, rf_prices, _, rfl, A.lp, _, _, _, rfl, rfl, SqL.of R1.prices, atI_ints (j := j) rfl (by rw [prL_len]; exact hj2), _, _, rfl, rfl, _, rfl, q, Cs, D.dx, _, _, rfl, Z1.obj, T.cl, T.nHeights, sf_heights, _, rfl, D.lh, _, _, _, rfl, rfl, SqL.of Z1.hts, atI_ints (j := Pn.hd N j) rfl (by rw [hhl]; exact hhd), _, _, rfl, rfl, ?_⟩
        have ed : d + Pn.g h v + Pn.g (prL N) j - Pn.g h (Pn.hd N j) = d + Pn.rc N h j := by
          rw [g_prL hj2]; unfold Pn.rc; rw [hjt]; omega
        dsimp only
        rw [ed]
        refine ⟨_, rfl, q, Cs, D.dx, _, _, rfl, Z1.obj, T.cl, T.nDistances, sf_distances, _, rfl, D.ld, _, _, _, rfl, rfl, SqL.of Z1.dis, atI_ints (j := Pn.hd N j) rfl (by rw [J.dlen]; exact hhd), _, _, rfl, rfl, _, rfl, ?_⟩
        -- the nearer way
        have near : (Pn.g dl (Pn.hd N j) < 0 ∨ d + Pn.rc N h j < Pn.g dl (Pn.hd N j)) → ∀ Dn : Ends, (∀ σ2 H2, (∃ (v4 v5 v6 : Option V) (dl en W : List Int), σ2 = [some (.ref q), some (.int v), some (.ref D.p), some (.int (d + Pn.g h v)), v4, v5, v6] ∧ SeaAt Cs Cr H2 q D N A P r h x dl en S W ∧ Pn.Dj N P r h x dl en S W d [v] ∧ Pn.g dl v = d ∧
            (∀ (i' j : Nat), i' < i + 1 → (Pn.lanesOf N v)[i']? = some j → P ≤ Pn.g r j → 0 ≤ Pn.g dl (Pn.hd N j) ∧ Pn.g dl (Pn.hd N j) ≤ d + Pn.rc N h j) ∧ W.length ≤ W0.length + (i + 1) ∧ Kp [D.ld, D.le, D.lW] H H2) → Dn.nx σ2 H2) →
            tSeq (tAsg (tVar 6) (gSub (tFld K (tVar 0) "distances") (tVar 5) rSetL)) (tSeq (tAsg (tVar 4) (gSub (tFld K (tVar 0) "entries") (tVar 5) rSetL)) (tDrop (tCall spPut [] E0 (tCons (tFld K (tVar 0) "waiting") (tCons (tUn (rU fun i => .int (-i)) (tOp (rI0 fun i j => .int (i + j)) (tOp (rI CMul fun i j => .int (i * j)) (tVar 6) (tC (.int 256))) (tVar 5))) tNil))))) Dn
              [some (.ref q), some (.int v), some (.ref D.p), some (.int (d + Pn.g h v)), some (.int j), some (.int (Pn.hd N j : Int)), some (.int (d + Pn.rc N h j))] H' := by
          intro hb Dn hDn
          have wS : Pn.hd N j ∉ S := fun z => by
            obtain ⟨_, b1, b2⟩ := J.slt _ z
            omega
          have hnv : v ≠ Pn.hd N j := fun z => wS (z ▸ hvS)
          have Z2 := Z1.setD (dl' := dl.set (Pn.hd N j) (d + Pn.rc N h j))
          have Z3 := Z2.setE (en' := en.set (Pn.hd N j) (j : Int))
          refine ⟨_, rfl, _, rfl, q, Cs, D.dx, _, _, rfl, Z1.obj, T.cl, T.nDistances, sf_distances, _, rfl, D.ld, _, _, Pn.hd N j, rfl, rfl, Z1.dis, ixN_nat rfl (by rw [List.length_map, J.dlen]; exact hhd), ?_⟩
          rw [ints_set]
          refine ⟨_, rfl, _, rfl, q, Cs, D.dx, _, _, rfl, Z2.obj, T.cl, T.nEntries, sf_entries, _, rfl, D.le, _, _, Pn.hd N j, rfl, rfl, Z2.ent, ixN_nat rfl (by rw [List.length_map, J.elen]; exact hhd), ?_⟩
          rw [ints_set]
          refine ⟨_, rfl, q, Cs, D.dx, _, _, rfl, Z3.obj, T.cl, T.nWaiting, sf_waiting, _, rfl, _, _, rfl, rfl, .inr ⟨by decide, by decide⟩, _, rfl, _, _, rfl, rfl, _, rfl, ?_⟩
          have nW : -((d + Pn.rc N h j) * 256 + (Pn.hd N j : Int)) ∉ W := fun z => by
            obtain ⟨d', v', y1, y2, y3, y4, y5, y6⟩ := J.wk _ z
            have e1 : d' = d + Pn.rc N h j := by omega
            have e2 : v' = Pn.hd N j := by omega
            subst e2
            omega
          refine ⟨D.lW, _, W, rfl, Z3.wai, J.ws, by omega, fun A1 B1 eW hA hB => ?_⟩
          have hA' : ∀ a, a ∈ A1 → a < -((d + Pn.rc N h j) * 256 + (Pn.hd N j : Int)) := fun a ha => by
            have h1 := hA a ha
            have h2 : a ≠ -((d + Pn.rc N h j) * 256 + (Pn.hd N j : Int)) := fun z => nW (by rw [eW, ← z]; exact List.mem_append_left _ ha)
            omega
          have J2 := J.better gd hn hP hvS hvd1 hjm c rd (by rw [hvd1]; exact hb) eW (by rw [hvd1]; exact hA') (by rw [hvd1]; exact hB)
          rw [hvd1] at J2
          have gs : ∀ z, Pn.g (dl.set (Pn.hd N j) (d + Pn.rc N h j)) z = if z = Pn.hd N j then d + Pn.rc N h j else Pn.g dl z := fun z => Pn.g_set _ (by rw [J.dlen]; exact hhd) z
          have d0 := J.D0
          refine hDn _ _ ⟨_, _, _, _, _, _, rfl, Z3.setW, J2, by rw [gs, if_neg hnv]; exact hvd1, fun i' j' h1 h2 h3 => ?_, ?_, ?_⟩
          · rw [gs]
            by_cases e : Pn.hd N j' = Pn.hd N j
            · rw [if_pos e]
              by_cases e' : i' < i
              · have := seen i' j' e' h2 h3
                rw [e] at this
                omega
              · have : i' = i := by omega
                subst this
                have : j' = j := Option.some.inj (h2.symm.trans hj)
                subst this
                omega
            · rw [if_neg e]
              by_cases e' : i' < i
              · exact seen i' j' e' h2 h3
              · have : i' = i := by omega
                subst this
                have : j' = j := Option.some.inj (h2.symm.trans hj)
                subst this
                exact absurd rfl e
          · have : W.length = A1.length + B1.length := by rw [eW, List.length_append]
            rw [List.length_append, List.length_cons]; omega
          · exact ((kp.upd (by simp)).upd (by simp)).upd (by simp)
        refine ite2 (fun e => ?_) (fun e => ?_)
        · exact iteT (near (.inl (of_decide_eq_true e)) _ (fun _ _ z => z))
        · have e : ¬ Pn.g dl (Pn.hd N j) < 0 := fun z => e (decide_eq_true z)
          refine ⟨_, rfl, _, rfl, q, Cs, D.dx, _, _, rfl, Z1.obj, T.cl, T.nDistances, sf_distances, _, rfl, D.ld, _, _, _, rfl, rfl, SqL.of Z1.dis, atI_ints (j := Pn.hd N j) rfl (by rw [J.dlen]; exact hhd), _, _, rfl, rfl, _, rfl, ite2 (fun e2 => ?_) (fun e2 => ?_)⟩
          · exact near (.inr (of_decide_eq_true e2)) _ (fun _ _ z => z)
          · have e2 : ¬ d + Pn.rc N h j < Pn.g dl (Pn.hd N j) := fun z => e2 (decide_eq_true z)
            exact stay (fun _ => ⟨by omega, by omega⟩) _ _
      · have c : ¬ P ≤ Pn.g r j := fun z => c (decide_eq_true z)
        exact stay (fun z => absurd z c) _ _
    · rintro σ H' ⟨v4, v5, v6, dl, en, W, rfl, Z1, J, hvd1, seen, hwl, kp⟩
      rw [List.length_map] at seen hwl
      refine k H' dl en W Z1 J hvd1 (fun j hj hr => ?_) hwl kp
      obtain ⟨i', hi', e⟩ := List.getElem_of_mem hj
      exact seen i' j hi' (by rw [List.getElem?_eq_getElem hi', e]) hr
end
end Px
set_option Elab.async false
set_option linter.all false
set_option maxRecDepth 100000
set_option maxHeartbeats 2000000
namespace Px
open PySem PySem.Spec PyProof.Rows L2
/-! ### Search.nearest_lack -/
def spNear (Cs Cr : Addr) : Sp := fun vs H Q _ => ∃ (q : Addr) (D : SD) (N : Pn.FN) (A : RA) (P : Int) (r h x : List Int), vs = [.ref q] ∧ SeaAt Cs Cr H q D N A P r h x (List.replicate N.n (-1)) (List.replicate N.n (-1)) [] [] ∧ N.Good ∧ N.n ≤ 256 ∧ N.m ≤ 4096 ∧ 0 < P ∧ h.length = N.n ∧ x.length = N.n ∧ r.length = 2 * N.m ∧ Pn.Red N P r h ∧
  (∀ (H' : Hp) (dl en W : List Int) (S0 : List Nat) (d : Int) (goal : Nat), SeaAt Cs Cr H' q D N A P r h x dl en (S0 ++ [goal]) W → Pn.Dj N P r h x dl en (S0 ++ [goal]) W d [goal] → Pn.g dl goal = d → Pn.g x goal ≤ -P → Kp [D.ld, D.le, D.lS, D.lW] H H' → Q (.int goal) H') ∧
  (∀ (H' : Hp) (dl en : List Int) (S : List Nat) (d : Int), Pn.Dj N P r h x dl en S [] d [] → Kp [D.ld, D.le, D.lS, D.lW] H H' → Q (.int (-1)) H')
theorem scNear : FnScope ["self", "place", "key"] ["self"] (defScope sNear) := ⟨rfl, rfl, rfl, by decide +kernel, rfl, by decide +kernel, by decide +kernel⟩
section
variable {P : Program} {w : World} {K : PySem.W.Frag} {mg : Str → Option Value} {base : Heap}
theorem ok_near {f Cs Cr : Addr} {fd : FuncData} (F : Fun K "nearest_lack" "Search.nearest_lack" sNear f fd) (T : TSea K Cs) (TR : TRoo K Cr) (B : TB mg) (TM : TN mg) (GL : MF P w K mg base CX0 2 Cs "look_on" ["self", "place"] (spLook Cs Cr)) :
    FnOk P w K mg base CX0 3 f fd ["self"] (spNear Cs Cr) := by
  obtain ⟨fL, fdL, GL, bL, mL⟩ := GL
  obtain ⟨ts, hspan⟩ := TM.span
  refine F.ok scNear (fun vs H Q E h => ?_) (fun cdv A outer s H vs Q E hr h => ?_)
  · obtain ⟨q, D, N, A, P, r, h, x, rfl, _⟩ := h
    rfl
  · obtain ⟨q, D, N, A, P, r, h, x, rfl, Z, gd, hn, hm, hP, hhl, hxl, hrl, rd, k1, k2⟩ := h
    have nd := scNear.nd
    refine ⟨_, pss_cons (ps_for PassesOwn.never rfl (pi_range3 rfl B.range (pa_cons (pe_op op_sub (pe_fld (pe_fld (pv 0) rfl) rfl) pe_int) (pa_cons (pe_un un_neg pe_int) (pa_cons (pe_un un_neg pe_int) pa_nil)))) (pg_name (i := 1) nd rfl (Or.inl rfl))
        (pss_one (ps_if (pt_cmpR op_ge (pe_ix ix_list (pe_fld (pv 0) rfl) (pv 1) (fun _ _ => rfl)) (pe_fld (pv 0) rfl) (nomark _))
          (pss_cons (ps_asg pe_int (pg_sub (pe_fld (pv 0) rfl) (pv 1) set_list))
          (pss_one (ps_expr (pe_bm PySem.F.plainAttrs_list PySem.F.slot_list_append PySem.F.type_list_append mt_append (pe_fld (pv 0) rfl) (pa_cons (pe_un un_neg (pv 1)) pa_nil))))) pss_nil)))
      (pss_cons (ps_while PassesOwn.never (pt_truth (pe_fld (pv 0) rfl) (fun _ => rfl))
        (pss_cons (ps_set (i := 2) nd rfl (Or.inl rfl) (pe_un un_neg (pe_bm0 PySem.F.plainAttrs_list PySem.F.slot_list_pop PySem.F.type_list_pop mt_pop (pe_fld (pv 0) rfl))))
        (pss_cons (ps_set (i := 1) nd rfl (Or.inl rfl) (pe_op op_mod (pv 2) (pe_glob (v := V.int 256) rfl hspan ⟨_, rfl⟩)))
        (pss_one (ps_if (pt_cmpR op_eq (pe_op op_fdiv (pv 2) (pe_glob (v := V.int 256) rfl hspan ⟨_, rfl⟩)) (pe_ix ix_list (pe_fld (pv 0) rfl) (pv 1) (fun _ _ => rfl)) (nomark _))
          (pss_cons (ps_expr (pe_bm PySem.F.plainAttrs_list PySem.F.slot_list_append PySem.F.type_list_append mt_append (pe_fld (pv 0) rfl) (pa_cons (pv 1) pa_nil)))
          (pss_cons (ps_if (pt_cmpR op_le (pe_ix ix_list (pe_fld (pv 0) rfl) (pv 1) (fun _ _ => rfl)) (pe_un un_neg (pe_fld (pv 0) rfl)) (nomark _)) (pss_one (ps_ret (pv 1))) pss_nil)
          (pss_one (ps_expr (pe_meth (pv 0) T.cl mL GL hr bL .nil pass0 (pa_cons (pv 1) pa_nil))))))
          pss_nil)))))
      (pss_one (ps_ret (pe_un un_neg pe_int)))), ?_⟩
    -- the places with a portion too many
    refine ⟨_, rfl, q, Cs, D.dx, _, _, rfl, Z.obj, T.cl, T.nRooms, sf_rooms, D.p, Cr, A.dx, _, _, rfl, Z.rooms.obj, TR.cl, TR.nPlaces, rf_places, _, _, rfl, rfl, _, rfl, _, rfl, _, _, _, N.n, rfl, ?_, ?_⟩
    · have e : ((N.n : Int) - 1 - (-1)).toNat = N.n := by omega
      have z := RgC.neg (i := (N.n : Int) - 1) (j := -1) (by omega) (by omega) (by omega) (by omega)
      rw [e] at z
      exact z
    refine for_rangeC (n := N.n) (fun i σ H' => ∃ (v1 : Option V) (dl W : List Int), σ = [some (.ref q), v1, none] ∧ SeaAt Cs Cr H' q D N A P r h x dl (List.replicate N.n (-1)) [] W ∧ Pn.Src N P x dl W (N.n - i) ∧ W.length ≤ i ∧ Kp [D.ld, D.le, D.lS, D.lW] H H')
      ⟨none, _, [], rfl, Z, Pn.src_init, Nat.le_refl _, Kp.refl H⟩ ?_ ?_
    · rintro i σ H' hi ⟨v1, dl, W, rfl, Z1, SR, hwl, kp⟩
      have ep : (N.n : Int) - 1 + ((i : Nat) : Int) * -1 = ((N.n - 1 - i : Nat) : Int) := by omega
      have ek : N.n - i = (N.n - 1 - i) + 1 := by omega
      have ek2 : N.n - (i + 1) = N.n - 1 - i := by omega
      rw [ek] at SR
      have hpl : N.n - 1 - i < N.n := by omega
      refine ⟨_, rfl, q, Cs, D.dx, _, _, rfl, Z1.obj, T.cl, T.nExtra, sf_extra, _, rfl, D.lx, _, _, _, rfl, rfl, SqL.of Z1.ext, atI_ints ep (by rw [hxl]; exact hpl), _, rfl, q, Cs, D.dx, _, _, rfl, Z1.obj, T.cl, T.nPortion, sf_portion, _, _, rfl, rfl, _, rfl, ite2 (fun c => ?_) (fun c => ?_)⟩
      · have c := of_decide_eq_true c
        have Z2 := Z1.setD (dl' := dl.set (N.n - 1 - i) 0)
        refine ⟨_, rfl, q, Cs, D.dx, _, _, rfl, Z1.obj, T.cl, T.nDistances, sf_distances, _, rfl, D.ld, _, _, N.n - 1 - i, rfl, rfl, Z1.dis, ixN_nat ep (by rw [List.length_map, SR.len]; exact hpl), ?_⟩
        rw [ints_set]
        refine ⟨_, rfl, q, Cs, D.dx, _, _, rfl, Z2.obj, T.cl, T.nWaiting, sf_waiting, tyL Z2.wai, _, rfl, _, rfl, D.lW, _, _, rfl, rfl, Z2.wai, by rw [List.length_map, sizeLine_eq]; omega, ?_⟩
        dsimp only
        rw [ep, nI_snoc]
        refine ⟨_, _, _, rfl, Z2.setW, by rw [ek2]; exact Pn.src_yes SR c, by rw [List.length_append]; simp; omega, (kp.upd (by simp)).upd (by simp)⟩
      · have c : ¬ P ≤ Pn.g x (N.n - 1 - i) := fun z => c (decide_eq_true z)
        exact ⟨_, dl, W, rfl, Z1, by rw [ek2]; exact Pn.src_no SR c, by omega, kp⟩
    · rintro σ H1 ⟨v1, dl, W, rfl, Z1, SR, hwl, kp⟩
      rw [Nat.sub_self] at SR
      -- the search
      obtain ⟨Wd, hWd⟩ : ∃ Wd : Nat → L2.St → Hp → Prop, ∀ m σ H', Wd m σ H' ↔ ∃ (v1 v2 : Option V) (dl en W : List Int) (S : List Nat) (d : Int), m = ((W.length : Int) + Pn.left N S).toNat ∧ σ = [some (.ref q), v1, v2] ∧ SeaAt Cs Cr H' q D N A P r h x dl en S W ∧ Pn.Dj N P r h x dl en S W d [] ∧ (W.length : Int) + Pn.left N S ≤ N.n + 2 * N.m ∧ Kp [D.ld, D.le, D.lS, D.lW] H H' := ⟨_, fun _ _ _ => Iff.rfl⟩
      refine ⟨Wd, ⟨_, (hWd _ _ _).mpr ⟨v1, none, dl, _, W, [], 0, rfl, rfl, Z1, Pn.dj_init SR, by rw [Pn.left_nil gd]; omega, kp⟩⟩, ?_⟩
      intro m σ H' hw
      obtain ⟨v1, v2, dl, en, W, S, d, rfl, rfl, Z1, J, hb, kp⟩ := (hWd _ _ _).mp hw
      refine ⟨_, rfl, q, Cs, D.dx, _, _, rfl, Z1.obj, T.cl, T.nWaiting, sf_waiting, _, .inl ⟨_, SqL.of Z1.wai, rfl⟩, ?_⟩
      rcases List.eq_nil_or_concat W with e | ⟨W', kk, e⟩
      · subst e
        refine iteF ?_
        exact ⟨_, rfl, k2 H' dl en S d J kp⟩
      · rw [List.concat_eq_append] at e
        subst e
        have e2 : (!(nI (W' ++ [kk])).isEmpty) = true := by simp [nI]
        rw [e2]
        refine iteT ⟨fun σ' H'' => ∃ m', m' < ((((W' ++ [kk]).length : Nat) : Int) + Pn.left N S).toNat ∧ Wd m' σ' H'', fun _ _ z => z, ?_⟩
        obtain ⟨d', v, hv, hk, hmod, hdiv, hD, hl0, hl1, hvS⟩ := J.last hn rfl
        have lnn := Pn.left_nn (N := N) S
        rw [List.length_append, List.length_singleton] at hb
        refine ⟨_, rfl, q, Cs, D.dx, _, _, rfl, Z1.obj, T.cl, T.nWaiting, sf_waiting, tyL Z1.wai, D.lW, _, V.int kk, rfl, rfl, Z1.wai, by simp [nI], ?_⟩
        have ed : (nI (W' ++ [kk])).dropLast = nI W' := by simp [nI]
        rw [ed]
        have Z2 := Z1.setW (W' := W')
        have kp2 : Kp [D.ld, D.le, D.lS, D.lW] H (upd H' D.lW (.lst (nI W'))) := kp.upd (by simp)
        refine ⟨_, rfl, ?_⟩
        refine ⟨_, rfl, _, _, rfl, rfl, (by show (0 : Int) < 256; decide), ?_⟩
        dsimp only
        rw [hmod]
        refine ⟨_, rfl, _, _, rfl, rfl, ⟨by decide, by decide⟩, _, rfl, q, Cs, D.dx, _, _, rfl, Z2.obj, T.cl, T.nDistances, sf_distances, _, rfl, D.ld, _, _, _, rfl, rfl, SqL.of Z2.dis, atI_ints (j := v) rfl (by rw [J.dlen]; exact hv), rfl, _, rfl, ite2 (fun c => ?_) (fun c => ?_)⟩
        · have c : d' = Pn.g dl v := by have := V.int.inj (of_decide_eq_true c); omega
          have nS : v ∉ S := fun z => by have := hvS z; omega
          have J2 := J.settle hn rfl hv hk hD c nS
          have sl : S.length ≤ N.n := Pn.nodup_lt _ _ J.nd (fun z hz => (J.slt z hz).1)
          have ls := Pn.left_snoc (N := N) hv nS
          have ln2 := Pn.left_nn (N := N) (S ++ [v])
          refine ⟨_, rfl, q, Cs, D.dx, _, _, rfl, Z2.obj, T.cl, T.nSettled, sf_settled, tyL Z2.set, _, rfl, D.lS, _, _, rfl, rfl, Z2.set, by rw [List.length_map, sizeLine_eq]; omega, ?_⟩
          rw [nN_snoc]
          have Z3 := Z2.setS (S' := S ++ [v])
          have kp3 := kp2.upd (a := D.lS) (o := .lst (nN (S ++ [v]))) (by simp)
          refine ⟨_, rfl, q, Cs, D.dx, _, _, rfl, Z3.obj, T.cl, T.nExtra, sf_extra, _, rfl, D.lx, _, _, _, rfl, rfl, SqL.of Z3.ext, atI_ints (j := v) rfl (by rw [hxl]; exact hv), _, rfl, q, Cs, D.dx, _, _, rfl, Z3.obj, T.cl, T.nPortion, sf_portion, _, rfl, _, _, rfl, rfl, _, rfl, ite2 (fun c2 => ?_) (fun c2 => ?_)⟩
          · have c2 := of_decide_eq_true c2
            exact ⟨_, rfl, k1 _ dl en W' S d' v Z3 J2 c.symm c2 kp3⟩
          · have c2 : ¬ Pn.g x v ≤ -P := fun z => c2 (decide_eq_true z)
            have ll : ((Pn.lanesOf N v).length : Int) = Pn.ln N v := rfl
            refine ⟨_, rfl, q, D.dx, _, rfl, Z3.obj, by rfl, _, rfl, q, D, N, A, P, r, h, x, dl, en, S ++ [v], W', d', v, rfl, Z3, gd, hn, hP, hhl, hrl, J2, by simp, c.symm, rd, by rw [sizeLine_eq]; omega, fun H4 dl' en' W'' Z4 J4 hd4 seen hwl4 kp4 => ?_⟩
            have J5 := J4.seen (by rw [hd4]; exact seen) (by omega)
            refine ⟨((W''.length : Int) + Pn.left N (S ++ [v])).toNat, ?_, (hWd _ _ _).mpr ⟨_, _, dl', en', W'', S ++ [v], d', rfl, rfl, Z4, J5, by omega, kp3.trans (kp4.mono (by simp))⟩⟩
            rw [List.length_append, List.length_singleton]; omega
        · have c : d' ≠ Pn.g dl v := fun z => c (decide_eq_true (congrArg V.int (by rw [hdiv]; exact z)))
          refine ⟨((W'.length : Int) + Pn.left N S).toNat, ?_, (hWd _ _ _).mpr ⟨_, _, dl, en, W', S, d, rfl, rfl, Z2, J.stale hn rfl hv hk c, by omega, kp2⟩⟩
          rw [List.length_append, List.length_singleton]; omega
end
end Px
set_option Elab.async false
set_option linter.all false
set_option maxRecDepth 100000
set_option maxHeartbeats 2000000
namespace Px
open PySem PySem.Spec PyProof.Rows L2
structure CB where
  dx : Addr
  p : Addr
  lh : Addr
  lx : Addr
structure CarAt (Cc Cr : Addr) (H : Hp) (c : Addr) (B : CB) (N : Pn.FN) (A : RA) (r h x : List Int) : Prop where
  obj : H c = some (.ins Cc B.dx (cf B.p B.lh B.lx))
  rooms : RoomsAt Cr H B.p N A r
  hts : H B.lh = some (.lst (nI h))
  ext : H B.lx = some (.lst (nI x))
  nd : (c :: B.lh :: B.lx :: B.p :: A.all).Nodup
section
variable {Cc Cr : Addr} {H H' : Hp} {c : Addr} {B : CB} {N : Pn.FN} {A : RA} {r h x r' h' x' : List Int}
theorem CarAt.same (Z : CarAt Cc Cr H c B N A r h x) (k : Same H H') : CarAt Cc Cr H' c B N A r h x := ⟨k _ _ Z.obj, Raw.same Z.rooms k, k _ _ Z.hts, k _ _ Z.ext, Z.nd⟩
structure CarNe (c : Addr) (B : CB) (A : RA) : Prop where
  ch : c ≠ B.lh
  cx : c ≠ B.lx
  hx : B.lh ≠ B.lx
  hA : B.lh ∉ B.p :: A.all
  xA : B.lx ∉ B.p :: A.all
  cA : c ∉ B.p :: A.all
theorem CarAt.ne (Z : CarAt Cc Cr H c B N A r h x) : CarNe c B A := by
  have nd := Z.nd
  rw [List.nodup_cons, List.nodup_cons, List.nodup_cons] at nd
  obtain ⟨a, b, e, _⟩ := nd
  have f : ∀ {y z : Addr} {l : List Addr}, y ∉ z :: l → y ≠ z ∧ y ∉ l := fun h => by rw [List.mem_cons, not_or] at h; exact h
  obtain ⟨a1, a⟩ := f a
  obtain ⟨a2, a⟩ := f a
  obtain ⟨b1, b⟩ := f b
  exact ⟨a1, a2, b1, b, e, a⟩
theorem CarAt.setX (Z : CarAt Cc Cr H c B N A r h x) : CarAt Cc Cr (upd H B.lx (.lst (nI x'))) c B N A r h x' := by
  have n := Z.ne
  refine ⟨?_, Raw.off Z.rooms ((Kp.refl H).upd (W := [B.lx]) (by simp)) (fun b hb => by simp at hb; subst hb; exact n.xA), ?_, upd_same, Z.nd⟩
  · rw [upd_ne n.cx]; exact Z.obj
  · rw [upd_ne n.hx]; exact Z.hts
theorem CarAt.setR (Z : CarAt Cc Cr H c B N A r h x) (k : Kp [A.lr] H H') (R : RoomsAt Cr H' B.p N A r') : CarAt Cc Cr H' c B N A r' h x := by
  have n := Z.ne
  have m : A.lr ∈ B.p :: A.all := by simp [RA.all]
  have f : ∀ {y : Addr}, y ∉ B.p :: A.all → y ∉ [A.lr] := fun h z => by simp at z; rw [z] at h; exact h m
  exact ⟨k _ _ Z.obj (f n.cA), R, k _ _ Z.hts (f n.hA), k _ _ Z.ext (f n.xA), Z.nd⟩
end
/-! ### Carrier.__init__ -/
def spCarI (Cc Cr : Addr) : Sp := fun vs H Q _ => ∃ (c dx p : Addr) (N : Pn.FN) (A : RA) (r : List Int), vs = [.ref c, .ref p] ∧ H c = some (.ins Cc dx []) ∧ RoomsAt Cr H p N A r ∧ N.n ≤ 256 ∧
  ∀ (H' : Hp) (B : CB), B.p = p → CarAt Cc Cr H' c B N A r (List.replicate N.n 0) (List.replicate N.n 0) → H B.lh = none → H B.lx = none → Kp [c] H H' → Q .non H'
theorem scCarI : FnScope ["self", "rooms"] ["self", "rooms"] (defScope sCarI) := ⟨rfl, rfl, rfl, by decide +kernel, rfl, by decide +kernel, by decide +kernel⟩
section
variable {P : Program} {w : World} {K : PySem.W.Frag} {mg : Str → Option Value} {base : Heap}
theorem Raw.ndA {C : Addr} {H : Hp} {p : Addr} {A : RA} {n : Nat} {hs r ps : List Int} {ln : Nat → List Nat} (R : Raw C H p A n hs r ps ln) : (p :: A.all).Nodup := R.nd
theorem ins_notA {C C' : Addr} {H : Hp} {p c dx : Addr} {A : RA} {n : Nat} {hs r ps : List Int} {ln : Nat → List Nat} (R : Raw C H p A n hs r ps ln) (h : H c = some (.ins C' dx [])) : c ∉ p :: A.all := fun m => by
  simp only [RA.all, List.mem_cons] at m
  rcases m with z | z | z | z | z | z
  · rw [z, R.obj] at h; cases h
  · rw [z, R.heads] at h; cases h
  · rw [z, R.room] at h; cases h
  · rw [z, R.prices] at h; cases h
  · rw [z, R.lanes] at h; cases h
  · obtain ⟨i, hi, e⟩ := List.getElem_of_mem z
    rw [R.lane i c (by rw [List.getElem?_eq_getElem hi, e])] at h; cases h
theorem ok_carI {f Cc Cr : Addr} {fd : FuncData} (F : Fun K "__init__" "Carrier.__init__" sCarI f fd) (T : TCar K Cc) (TR : TRoo K Cr) : FnOk P w K mg base CX0 1 f fd ["self", "rooms"] (spCarI Cc Cr) := by
  refine F.ok scCarI (fun vs H Q E h => ?_) (fun cdv A outer s H vs Q E hr h => ?_)
  · obtain ⟨c, dx, p, N, A, r, rfl, _⟩ := h
    rfl
  · obtain ⟨c, dx, p, N, A, r, rfl, hc, R, hn, k⟩ := h
    have cA := ins_notA R hc
    refine ⟨_, pss_cons (ps_fld (pv 0) (pv 1) rfl)
      (pss_cons (ps_fld (pv 0) (pe_op op_rep (pe_lst (pa_cons pe_int pa_nil)) (pe_fld (pv 1) rfl)) rfl)
      (pss_one (ps_fld (pv 0) (pe_op op_rep (pe_lst (pa_cons pe_int pa_nil)) (pe_fld (pv 1) rfl)) rfl))), ?_⟩
    refine ⟨_, rfl, _, rfl, c, Cc, dx, _, rfl, hc, T.cl, T.nRooms, (by decide), ?_⟩
    generalize e1 : upd H c _ = H1
    have k1 : Kp [c] H H1 := by rw [← e1]; exact (Kp.refl H).upd (by simp)
    have p1 : H1 c = some (.ins Cc dx (putF "rooms" (.ref p) [])) := by rw [← e1]; exact upd_same
    have R1 : RoomsAt Cr H1 p N A r := Raw.off R k1 (fun b hb => by simp at hb; subst hb; exact cA)
    -- heights
    refine ⟨(by show 1 ≤ sizeLine; decide), fun l0 hl0 => ?_⟩
    have s0 : Same H1 (upd H1 l0 (.lst [V.int 0])) := fun b ob e => by rw [upd_ne (ne_of_none e hl0)]; exact e
    refine ⟨_, rfl, p, Cr, A.dx, _, _, rfl, s0 _ _ R1.obj, TR.cl, TR.nPlaces, rf_places, l0, _, _, rfl, rfl, upd_same, by omega, by omega, by simp [sizeLine_eq]; omega, fun lh hlh => ?_⟩
    have hh0 : H1 lh = none := s0.free hlh
    rw [show ((N.n : Nat) : Int).toNat = N.n from Int.toNat_natCast _, rep_one, rep_int]
    generalize e2 : upd (upd H1 l0 (.lst [V.int 0])) lh _ = H2
    have s2 : Same H1 H2 := fun b ob e => by rw [← e2, upd_ne (ne_of_none e hh0)]; exact s0 b ob e
    have f2 : H2 lh = some (.lst (nI (List.replicate N.n 0))) := by rw [← e2]; exact upd_same
    refine ⟨_, rfl, c, Cc, dx, _, rfl, s2 _ _ p1, T.cl, T.nHeights, (by show 1 < 1000; decide), ?_⟩
    generalize e3 : upd H2 c _ = H3
    have k3 : Kp [c] H H3 := by rw [← e3]; exact (k1.trans (fun b o e _ => s2 b o e)).upd (by simp)
    have p3 : H3 c = some (.ins Cc dx (putF "heights" (.ref lh) (putF "rooms" (.ref p) []))) := by rw [← e3]; exact upd_same
    have nch : lh ≠ c := Ne.symm (ne_of_none p1 hh0)
    have f3 : H3 lh = some (.lst (nI (List.replicate N.n 0))) := by rw [← e3, upd_ne nch]; exact f2
    have R3 : RoomsAt Cr H3 p N A r := Raw.off R k3 (fun b hb => by simp at hb; subst hb; exact cA)
    -- extra
    refine ⟨(by show 1 ≤ sizeLine; decide), fun l1 hl1 => ?_⟩
    have s4 : Same H3 (upd H3 l1 (.lst [V.int 0])) := fun b ob e => by rw [upd_ne (ne_of_none e hl1)]; exact e
    refine ⟨_, rfl, p, Cr, A.dx, _, _, rfl, s4 _ _ R3.obj, TR.cl, TR.nPlaces, rf_places, l1, _, _, rfl, rfl, upd_same, by omega, by omega, by simp [sizeLine_eq]; omega, fun lx hlx => ?_⟩
    have hx0 : H3 lx = none := s4.free hlx
    rw [show ((N.n : Nat) : Int).toNat = N.n from Int.toNat_natCast _, rep_one, rep_int]
    generalize e5 : upd (upd H3 l1 (.lst [V.int 0])) lx _ = H5
    have s5 : Same H3 H5 := fun b ob e => by rw [← e5, upd_ne (ne_of_none e hx0)]; exact s4 b ob e
    have f5 : H5 lx = some (.lst (nI (List.replicate N.n 0))) := by rw [← e5]; exact upd_same
    refine ⟨_, rfl, c, Cc, dx, _, rfl, s5 _ _ p3, T.cl, T.nExtra, (by show 2 < 1000; decide), ?_⟩
    generalize e6 : upd H5 c _ = H6
    have k6 : Kp [c] H H6 := by rw [← e6]; exact (k3.trans (fun b o e _ => s5 b o e)).upd (by simp)
    have ncx : lx ≠ c := Ne.symm (ne_of_none p3 hx0)
    obtain ⟨h1, _⟩ := k1.two (by simp [p1]) hh0
    obtain ⟨h2, _⟩ := k3.two (by simp [p3]) hx0
    refine k H6 ⟨dx, p, lh, lx⟩ rfl ⟨by rw [← e6]; exact upd_same, Raw.off R k6 (fun b hb => by simp at hb; subst hb; exact cA), ?_, ?_, ?_⟩ h1 h2 k6
    · rw [← e6, upd_ne nch]; exact s5 _ _ f3
    · rw [← e6, upd_ne ncx]; exact f5
    · have nhA := R.len h1
      have nxA := R.len h2
      have nhx := ne_of_none f3 hx0
      refine List.nodup_cons.mpr ⟨?_, List.nodup_cons.mpr ⟨?_, List.nodup_cons.mpr ⟨nxA, R.ndA⟩⟩⟩
      · rw [List.mem_cons, List.mem_cons, not_or, not_or]; exact ⟨Ne.symm nch, Ne.symm ncx, cA⟩
      · rw [List.mem_cons, not_or]; exact ⟨nhx, nhA⟩
end
end Px
set_option Elab.async false
set_option linter.all false
set_option maxRecDepth 100000
set_option maxHeartbeats 2000000
namespace Px
open PySem PySem.Spec PyProof.Rows L2
/-! ### Search.__init__ -/
def spSeaI (Cs Cc Cr : Addr) : Sp := fun vs H Q _ => ∃ (q dx c : Addr) (B : CB) (N : Pn.FN) (A : RA) (P : Int) (r h x : List Int), vs = [.ref q, .ref c, .int P] ∧ H q = some (.ins Cs dx []) ∧ CarAt Cc Cr H c B N A r h x ∧ N.n ≤ 256 ∧
  ∀ (H' : Hp) (D : SD), D.p = B.p → D.lh = B.lh → D.lx = B.lx → SeaAt Cs Cr H' q D N A P r h x (List.replicate N.n (-1)) (List.replicate N.n (-1)) [] [] → (∀ b, b ∈ [D.ld, D.le, D.lS, D.lW] → H b = none) → Kp [q] H H' → Q .non H'
theorem scSeaI : FnScope ["self", "carrier", "portion"] ["self", "carrier", "portion"] (defScope sSeaI) := ⟨rfl, rfl, rfl, by decide +kernel, rfl, by decide +kernel, by decide +kernel⟩
section
variable {P : Program} {w : World} {K : PySem.W.Frag} {mg : Str → Option Value} {base : Heap}
theorem ok_seaI {f Cs Cc Cr : Addr} {fd : FuncData} (F : Fun K "__init__" "Search.__init__" sSeaI f fd) (T : TSea K Cs) (TC : TCar K Cc) (TR : TRoo K Cr) : FnOk P w K mg base CX0 1 f fd ["self", "carrier", "portion"] (spSeaI Cs Cc Cr) := by
  refine F.ok scSeaI (fun vs H Q E h => ?_) (fun cdv A outer s H vs Q E hr h => ?_)
  · obtain ⟨q, dx, c, B, N, A, P, r, h, x, rfl, _⟩ := h
    rfl
  · obtain ⟨q, dx, c, B, N, A, P, r, h, x, rfl, hq, Z, hn, k⟩ := h
    have R := Z.rooms
    have qA := ins_notA R hq
    have qc : c ≠ q := ne_of Z.obj hq (by intro z; cases z)
    have qh : B.lh ≠ q := ne_of Z.hts hq (by intro z; cases z)
    have qx : B.lx ≠ q := ne_of Z.ext hq (by intro z; cases z)
    refine ⟨_, pss_cons (ps_fld (pv 0) (pe_fld (pv 1) rfl) rfl) (pss_cons (ps_fld (pv 0) (pe_fld (pv 1) rfl) rfl) (pss_cons (ps_fld (pv 0) (pe_fld (pv 1) rfl) rfl) (pss_cons (ps_fld (pv 0) (pv 2) rfl)
      (pss_cons (ps_fld (pv 0) (pe_op op_rep (pe_lst (pa_cons (pe_un un_neg pe_int) pa_nil)) (pe_fld (pe_fld (pv 0) rfl) rfl)) rfl)
      (pss_cons (ps_fld (pv 0) (pe_op op_rep (pe_lst (pa_cons (pe_un un_neg pe_int) pa_nil)) (pe_fld (pe_fld (pv 0) rfl) rfl)) rfl)
      (pss_cons (ps_fld (pv 0) (pe_lst pa_nil) rfl)
      (pss_one (ps_fld (pv 0) (pe_lst pa_nil) rfl)))))))), ?_⟩
    have kq : ∀ {H' : Hp}, Kp [q] H H' → H' c = some (.ins Cc B.dx (cf B.p B.lh B.lx)) ∧ RoomsAt Cr H' B.p N A r ∧ H' B.lh = some (.lst (nI h)) ∧ H' B.lx = some (.lst (nI x)) := fun kk =>
      ⟨kk _ _ Z.obj (by simp [qc]), Raw.off R kk (fun b hb => by simp at hb; subst hb; exact qA), kk _ _ Z.hts (by simp [qh]), kk _ _ Z.ext (by simp [qx])⟩
    refine ⟨_, rfl, c, Cc, B.dx, _, _, rfl, Z.obj, TC.cl, TC.nRooms, cf_rooms, _, rfl, q, Cs, dx, _, rfl, hq, T.cl, T.nRooms, (by decide), ?_⟩
    generalize e1 : upd H q _ = H1
    have k1 : Kp [q] H H1 := by rw [← e1]; exact (Kp.refl H).upd (by simp)
    have p1 : H1 q = some (.ins Cs dx (putF "rooms" (.ref B.p) [])) := by rw [← e1]; exact upd_same
    refine ⟨_, rfl, c, Cc, B.dx, _, _, rfl, (kq k1).1, TC.cl, TC.nHeights, cf_heights, _, rfl, q, Cs, dx, _, rfl, p1, T.cl, T.nHeights, (by show 1 < 1000; decide), ?_⟩
    generalize e2 : upd H1 q _ = H2
    have k2 : Kp [q] H H2 := by rw [← e2]; exact k1.upd (by simp)
    have p2 : H2 q = some (.ins Cs dx (putF "heights" (.ref B.lh) (putF "rooms" (.ref B.p) []))) := by rw [← e2]; exact upd_same
    refine ⟨_, rfl, c, Cc, B.dx, _, _, rfl, (kq k2).1, TC.cl, TC.nExtra, cf_extra, _, rfl, q, Cs, dx, _, rfl, p2, T.cl, T.nExtra, (by show 2 < 1000; decide), ?_⟩
    generalize e3 : upd H2 q _ = H3
    have k3 : Kp [q] H H3 := by rw [← e3]; exact k2.upd (by simp)
    have p3 : H3 q = some (.ins Cs dx (putF "extra" (.ref B.lx) (putF "heights" (.ref B.lh) (putF "rooms" (.ref B.p) [])))) := by rw [← e3]; exact upd_same
    refine ⟨_, rfl, _, rfl, q, Cs, dx, _, rfl, p3, T.cl, T.nPortion, (by show 3 < 1000; decide), ?_⟩
    generalize e4 : upd H3 q _ = H4
    have k4 : Kp [q] H H4 := by rw [← e4]; exact k3.upd (by simp)
    have p4 : H4 q = some (.ins Cs dx (putF "portion" (.int P) (putF "extra" (.ref B.lx) (putF "heights" (.ref B.lh) (putF "rooms" (.ref B.p) []))))) := by rw [← e4]; exact upd_same
    -- distances
    refine ⟨_, rfl, (by show 1 ≤ sizeLine; decide), fun l0 hl0 => ?_⟩
    have s0 : Same H4 (upd H4 l0 (.lst [V.int (-1)])) := fun b ob e => by rw [upd_ne (ne_of_none e hl0)]; exact e
    refine ⟨_, rfl, q, Cs, dx, _, _, rfl, s0 _ _ p4, T.cl, T.nRooms, (by rfl), B.p, Cr, A.dx, _, _, rfl, s0 _ _ (kq k4).2.1.obj, TR.cl, TR.nPlaces, rf_places, l0, _, _, rfl, rfl, upd_same, by omega, by omega, by simp [sizeLine_eq]; omega, fun ld hld => ?_⟩
    have hd0 : H4 ld = none := s0.free hld
    rw [show ((N.n : Nat) : Int).toNat = N.n from Int.toNat_natCast _, rep_one, rep_int]
    generalize e5 : upd (upd H4 l0 (.lst [V.int (-1)])) ld _ = H5
    have s5 : Same H4 H5 := fun b ob e => by rw [← e5, upd_ne (ne_of_none e hd0)]; exact s0 b ob e
    have f5 : H5 ld = some (.lst (nI (List.replicate N.n (-1)))) := by rw [← e5]; exact upd_same
    refine ⟨_, rfl, q, Cs, dx, _, rfl, s5 _ _ p4, T.cl, T.nDistances, (by show 4 < 1000; decide), ?_⟩
    generalize e6 : upd H5 q _ = H6
    have k6 : Kp [q] H H6 := by rw [← e6]; exact (k4.trans (fun b o e _ => s5 b o e)).upd (by simp)
    have p6 : H6 q = some (.ins Cs dx (putF "distances" (.ref ld) (putF "portion" (.int P) (putF "extra" (.ref B.lx) (putF "heights" (.ref B.lh) (putF "rooms" (.ref B.p) [])))))) := by rw [← e6]; exact upd_same
    have nqd : ld ≠ q := Ne.symm (ne_of_none p4 hd0)
    have f6 : H6 ld = some (.lst (nI (List.replicate N.n (-1)))) := by rw [← e6, upd_ne nqd]; exact f5
    -- entries
    refine ⟨_, rfl, (by show 1 ≤ sizeLine; decide), fun l1 hl1 => ?_⟩
    have s7 : Same H6 (upd H6 l1 (.lst [V.int (-1)])) := fun b ob e => by rw [upd_ne (ne_of_none e hl1)]; exact e
    refine ⟨_, rfl, q, Cs, dx, _, _, rfl, s7 _ _ p6, T.cl, T.nRooms, (by rfl), B.p, Cr, A.dx, _, _, rfl, s7 _ _ (kq k6).2.1.obj, TR.cl, TR.nPlaces, rf_places, l1, _, _, rfl, rfl, upd_same, by omega, by omega, by simp [sizeLine_eq]; omega, fun le hle => ?_⟩
    have he0 : H6 le = none := s7.free hle
    rw [show ((N.n : Nat) : Int).toNat = N.n from Int.toNat_natCast _, rep_one, rep_int]
    generalize e8 : upd (upd H6 l1 (.lst [V.int (-1)])) le _ = H8
    have s8 : Same H6 H8 := fun b ob e => by rw [← e8, upd_ne (ne_of_none e he0)]; exact s7 b ob e
    have g8 : H8 le = some (.lst (nI (List.replicate N.n (-1)))) := by rw [← e8]; exact upd_same
    refine ⟨_, rfl, q, Cs, dx, _, rfl, s8 _ _ p6, T.cl, T.nEntries, (by show 5 < 1000; decide), ?_⟩
    generalize e9 : upd H8 q _ = H9
    have k9 : Kp [q] H H9 := by rw [← e9]; exact (k6.trans (fun b o e _ => s8 b o e)).upd (by simp)
    have p9 : H9 q = some (.ins Cs dx (putF "entries" (.ref le) (putF "distances" (.ref ld) (putF "portion" (.int P) (putF "extra" (.ref B.lx) (putF "heights" (.ref B.lh) (putF "rooms" (.ref B.p) []))))))) := by rw [← e9]; exact upd_same
    have nqe : le ≠ q := Ne.symm (ne_of_none p6 he0)
    have f9 : H9 ld = some (.lst (nI (List.replicate N.n (-1)))) := by rw [← e9, upd_ne nqd]; exact s8 _ _ f6
    have g9 : H9 le = some (.lst (nI (List.replicate N.n (-1)))) := by rw [← e9, upd_ne nqe]; exact g8
    -- settled
    refine ⟨Nat.zero_le _, fun lS hlS => ⟨_, rfl, q, Cs, dx, _, rfl, (by rw [upd_ne (ne_of_none p9 hlS)]; exact p9), T.cl, T.nSettled, (by show 6 < 1000; decide), ?_⟩⟩
    generalize e10 : upd (upd H9 lS (.lst [])) q _ = H10
    have k10 : Kp [q] H H10 := by rw [← e10]; exact (k9.new hlS).upd (by simp)
    have p10 : H10 q = some (.ins Cs dx (putF "settled" (.ref lS) (putF "entries" (.ref le) (putF "distances" (.ref ld) (putF "portion" (.int P) (putF "extra" (.ref B.lx) (putF "heights" (.ref B.lh) (putF "rooms" (.ref B.p) [])))))))) := by rw [← e10]; exact upd_same
    have nqS : lS ≠ q := Ne.symm (ne_of_none p9 hlS)
    have ndS := ne_of_none f9 hlS
    have neS := ne_of_none g9 hlS
    have f10 : H10 ld = some (.lst (nI (List.replicate N.n (-1)))) := by rw [← e10, upd_ne nqd, upd_ne ndS]; exact f9
    have g10 : H10 le = some (.lst (nI (List.replicate N.n (-1)))) := by rw [← e10, upd_ne nqe, upd_ne neS]; exact g9
    have i10 : H10 lS = some (.lst []) := by rw [← e10, upd_ne nqS]; exact upd_same
    -- waiting
    refine ⟨Nat.zero_le _, fun lW hlW => ⟨_, rfl, q, Cs, dx, _, rfl, (by rw [upd_ne (ne_of_none p10 hlW)]; exact p10), T.cl, T.nWaiting, (by show 7 < 1000; decide), ?_⟩⟩
    generalize e11 : upd (upd H10 lW (.lst [])) q _ = H11
    have k11 : Kp [q] H H11 := by rw [← e11]; exact (k10.new hlW).upd (by simp)
    have nqW : lW ≠ q := Ne.symm (ne_of_none p10 hlW)
    have ndW := ne_of_none f10 hlW
    have neW := ne_of_none g10 hlW
    have nSW := ne_of_none i10 hlW
    have nde := ne_of_none f6 he0
    obtain ⟨z1, _⟩ := k4.two (by simp [p4]) hd0
    obtain ⟨z2, _⟩ := k6.two (by simp [p6]) he0
    obtain ⟨z3, _⟩ := k9.two (by simp [p9]) hlS
    obtain ⟨z4, _⟩ := k10.two (by simp [p10]) hlW
    obtain ⟨_, y2, y3, y4⟩ := kq k11
    have hne : ∀ {y : Addr}, H y = none → y ≠ B.lh ∧ y ≠ B.lx ∧ y ∉ B.p :: A.all := fun hy => ⟨fun z => (by rw [z, Z.hts] at hy; cases hy), fun z => (by rw [z, Z.ext] at hy; cases hy), R.len hy⟩
    refine k H11 ⟨dx, B.p, B.lh, B.lx, ld, le, lS, lW⟩ rfl rfl rfl ⟨by rw [← e11]; exact upd_same, y2, y3, y4, ?_, ?_, ?_, ?_, ?_⟩ (fun b hb => ?_) k11
    · rw [← e11, upd_ne nqd, upd_ne ndW]; exact f10
    · rw [← e11, upd_ne nqe, upd_ne neW]; exact g10
    · rw [← e11, upd_ne nqS, upd_ne nSW]; exact i10
    · rw [← e11, upd_ne nqW]; exact upd_same
    · have zn := Z.nd
      rw [List.nodup_cons] at zn
      obtain ⟨a1, a2, a3⟩ := hne z1
      obtain ⟨b1, b2, b3⟩ := hne z2
      obtain ⟨c1, c2, c3⟩ := hne z3
      obtain ⟨d1, d2, d3⟩ := hne z4
      have mk : ∀ {y a b c d : Addr} {l : List Addr}, y ≠ a → y ≠ b → y ∉ c :: l → y ∉ a :: b :: c :: l := fun h1 h2 h3 m => by
        rcases List.mem_cons.mp m with z | m
        · exact h1 z
        · rcases List.mem_cons.mp m with z | m
          · exact h2 z
          · exact h3 m
      have mc : ∀ {y a : Addr} {l : List Addr}, y ≠ a → y ∉ l → y ∉ a :: l := fun h1 h2 m => (List.mem_cons.mp m).elim h1 h2
      exact List.nodup_cons.mpr ⟨mc (Ne.symm nqd) (mc (Ne.symm nqe) (mc (Ne.symm nqS) (mc (Ne.symm nqW) (mc (Ne.symm qh) (mc (Ne.symm qx) qA))))),
        List.nodup_cons.mpr ⟨mc nde (mc ndS (mc ndW (mc a1 (mc a2 a3)))), List.nodup_cons.mpr ⟨mc neS (mc neW (mc b1 (mc b2 b3))), List.nodup_cons.mpr ⟨mc nSW (mc c1 (mc c2 c3)), List.nodup_cons.mpr ⟨mc d1 (mc d2 d3), zn.2⟩⟩⟩⟩⟩
    · simp only [List.mem_cons, List.not_mem_nil, or_false] at hb
      rcases hb with z | z | z | z <;> rw [z] <;> assumption
end
end Px
set_option Elab.async false
set_option linter.all false
set_option maxRecDepth 100000
set_option maxHeartbeats 2000000
namespace Px
open PySem PySem.Spec PyProof.Rows L2
/-! ### Carrier.fill_gainful -/
def spGain (Cc Cr : Addr) : Sp := fun vs H Q _ => ∃ (c : Addr) (B : CB) (N : Pn.FN) (A : RA) (P units : Int) (s t : Nat) (r h x : List Int), vs = [.ref c, .int P] ∧ CarAt Cc Cr H c B N A r h x ∧ N.Good ∧ N.n ≤ 256 ∧ 0 < P ∧ Pn.Car N s t units r h x ∧
  ∀ (H' : Hp) (r' x' : List Int), CarAt Cc Cr H' c B N A r' h x' → Pn.Car N s t units r' h x' → Pn.Red N P r' h → Kp [B.lx, A.lr] H H' → Q .non H'
theorem scGain : FnScope ["self", "portion", "rooms", "place", "lane", "units", "head"] ["self", "portion"] (defScope sGain) := ⟨rfl, rfl, rfl, by decide +kernel, rfl, by decide +kernel, by decide +kernel⟩
section
variable {P : Program} {w : World} {K : PySem.W.Frag} {mg : Str → Option Value} {base : Heap}
theorem ok_gain {f Cc Cr : Addr} {fd : FuncData} (F : Fun K "fill_gainful" "Carrier.fill_gainful" sGain f fd) (T : TCar K Cc) (TR : TRoo K Cr) (TBb : TB mg) (GP : MF P w K mg base CX0 1 Cr "push" ["self", "path", "units"] (spPush Cr)) :
    FnOk P w K mg base CX0 2 f fd ["self", "portion"] (spGain Cc Cr) := by
  obtain ⟨fP, fdP, GP, bP, mP⟩ := GP
  refine F.ok scGain (fun vs H Q E h => ?_) (fun cdv A outer s H vs Q E hr h => ?_)
  · obtain ⟨c, B, N, A, P, units, s, t, r, h, x, rfl, _⟩ := h
    rfl
  · obtain ⟨c, B, N, A, P, units, s, t, r0, h, x0, rfl, Z0, gd, hn, hP, C0, k⟩ := h
    have nd := scGain.nd
    refine ⟨_, pss_cons (ps_set (i := 2) nd rfl (Or.inl rfl) (pe_fld (pv 0) rfl))
      (pss_one (ps_for PassesOwn.never rfl (pi_range1 rfl TBb.range (pa_cons (pe_fld (pv 2) rfl) pa_nil)) (pg_name (i := 3) nd rfl (Or.inl rfl))
        (pss_one (ps_for PassesOwn.never rfl (pi_list (pe_ix ix_list (pe_fld (pv 2) rfl) (pv 3) (fun _ _ => rfl))) (pg_name (i := 4) nd rfl (Or.inl rfl))
          (pss_cons (ps_set (i := 5) nd rfl (Or.inl rfl) (pe_ix ix_list (pe_fld (pv 2) rfl) (pv 4) (fun _ _ => rfl)))
          (pss_cons (ps_set (i := 6) nd rfl (Or.inl rfl) (pe_ix ix_list (pe_fld (pv 2) rfl) (pv 4) (fun _ _ => rfl)))
          (pss_one (ps_if (PW.pt (pw_and (pt_cmpR op_ge (pv 5) (pv 1) (nomark _)) (pw_and1 (pt_cmpR op_lt (pe_op op_add (pe_ix ix_list (pe_fld (pv 2) rfl) (pv 4) (fun _ _ => rfl)) (pe_ix ix_list (pe_fld (pv 0) rfl) (pv 3) (fun _ _ => rfl))) (pe_ix ix_list (pe_fld (pv 0) rfl) (pv 6) (fun _ _ => rfl)) (nomark _)))))
            (pss_cons (ps_expr (pe_meth (pv 2) TR.cl mP GP hr bP .nil pass0 (pa_cons (pe_lst (pa_cons (pv 4) pa_nil)) (pa_cons (pv 5) pa_nil))))
            (pss_cons (ps_augS (pe_fld (pv 0) rfl) (pv 3) get_list (pv 5) ip_sub set_list)
            (pss_one (ps_augS (pe_fld (pv 0) rfl) (pv 6) get_list (pv 5) ip_add set_list))))
            pss_nil)))))))), ?_⟩
    have mlr : ∀ {y : Addr}, y ∉ B.p :: A.all → y ∉ [A.lr] := fun h z => by simp at z; rw [z] at h; exact h (by simp [RA.all])
    refine ⟨_, rfl, c, Cc, B.dx, _, _, rfl, Z0.obj, T.cl, T.nRooms, cf_rooms, ?_⟩
    refine ⟨_, rfl, B.p, Cr, A.dx, _, _, rfl, Z0.rooms.obj, TR.cl, TR.nPlaces, rf_places, _, rfl, by omega, by omega, ?_⟩
    refine for_range (n := N.n) (fun i σ H' => ∃ (v3 v4 v5 v6 : Option V) (r x : List Int), σ = [some (.ref c), some (.int P), some (.ref B.p), v3, v4, v5, v6] ∧ CarAt Cc Cr H' c B N A r h x ∧ Pn.Car N s t units r h x ∧ (∀ k, k < 2 * N.m → Pn.tl N k < i → P ≤ Pn.g r k → 0 ≤ Pn.rc N h k) ∧ Kp [B.lx, A.lr] H H')
      ⟨none, none, none, none, r0, x0, rfl, Z0, C0, fun k _ h => (by omega), Kp.refl H⟩ ?_ ?_
    · rintro v σ H' hv ⟨v3, v4, v5, v6, r, x, rfl, Z, CA, ok, kp⟩
      obtain ⟨la, hla⟩ : ∃ la, A.ls[v]? = some la := ⟨_, List.getElem?_eq_getElem (by rw [Z.rooms.lsl]; exact hv)⟩
      have ev : (0 : Int) + (v : Int) = ((v : Nat) : Int) := by omega
      refine ⟨_, rfl, B.p, Cr, A.dx, _, _, rfl, Z.rooms.obj, TR.cl, TR.nLanes, rf_lanes, _, rfl, A.ll, _, _, _, rfl, rfl, SqL.of Z.rooms.lanes, at_of (j := v) (v := V.ref la) ev (by rw [List.getElem?_map, hla]; rfl), la, rfl, ⟨_, SqL.of (Z.rooms.lane v la hla)⟩, ?_⟩
      refine for_list (K := K) (a := la) (xs := nN (Pn.lanesOf N v)) (fun y σ H' => ∃ (v4 v5 v6 : Option V) (r x : List Int), σ = [some (.ref c), some (.int P), some (.ref B.p), some (.int (0 + (v : Int))), v4, v5, v6] ∧ CarAt Cc Cr H' c B N A r h x ∧ Pn.Car N s t units r h x ∧ (∀ k, k < 2 * N.m → (Pn.tl N k < v ∨ ∃ y', y' < y ∧ (Pn.lanesOf N v)[y']? = some k) → P ≤ Pn.g r k → 0 ≤ Pn.rc N h k) ∧ Kp [B.lx, A.lr] H H')
        ⟨_, _, _, r, x, rfl, Z, CA, fun k hk h => ok k hk (by rcases h with h | ⟨y', h, _⟩; exact h; omega), kp⟩ (fun y σ H'' _ ⟨_, _, _, _, _, _, z, _⟩ => SqL.of (z.rooms.lane v la hla)) ?_ ?_
      · rintro y z σ H'' hz ⟨v4, v5, v6, r, x, rfl, Z, CA, ok, kp⟩
        obtain ⟨j, hj, rfl⟩ := nN_at' hz
        obtain ⟨hj2, hjt⟩ := Pn.mem_lanes.mp (List.mem_of_getElem? hj)
        have hhd := Pn.hd_lt gd hj2
        have R1 := Z.rooms
        have rl := CA.room.len
        have snoc : ∀ k, (∃ y', y' < y + 1 ∧ (Pn.lanesOf N v)[y']? = some k) → k = j ∨ ∃ y', y' < y ∧ (Pn.lanesOf N v)[y']? = some k := fun k ⟨y', h1, h2⟩ => by
          by_cases e : y' < y
          · exact .inr ⟨y', e, h2⟩
          · have : y' = y := by omega
            subst this
            exact .inl (Option.some.inj (h2.symm.trans hj))
        refine ⟨_, rfl, B.p, Cr, A.dx, _, _, rfl, R1.obj, TR.cl, TR.nRoom, rf_room, _, rfl, A.lr, _, _, _, rfl, rfl, SqL.of R1.room, atI_ints (j := j) rfl (by rw [rl]; exact hj2), ?_⟩
        refine ⟨_, rfl, B.p, Cr, A.dx, _, _, rfl, R1.obj, TR.cl, TR.nHeads, rf_heads, _, rfl, A.lh, _, _, _, rfl, rfl, SqL.of R1.heads, atI_ints (j := j) rfl (by rw [hdL_len]; exact hj2), ?_⟩
        rw [g_hdL hj2]
        have stay : (P ≤ Pn.g r j → 0 ≤ Pn.rc N h j) → ∃ (v4 v5 v6 : Option V) (r' x' : List Int), ([some (.ref c), some (.int P), some (.ref B.p), some (.int (0 + (v : Int))), some (.int j), some (.int (Pn.g r j)), some (.int (Pn.hd N j : Int))] : L2.St) = [some (.ref c), some (.int P), some (.ref B.p), some (.int (0 + (v : Int))), v4, v5, v6] ∧ CarAt Cc Cr H'' c B N A r' h x' ∧ Pn.Car N s t units r' h x' ∧ (∀ k, k < 2 * N.m → (Pn.tl N k < v ∨ ∃ y', y' < y + 1 ∧ (Pn.lanesOf N v)[y']? = some k) → P ≤ Pn.g r' k → 0 ≤ Pn.rc N h k) ∧ Kp [B.lx, A.lr] H H'' := by
          intro hh
          refine ⟨_, _, _, r, x, rfl, Z, CA, fun k hk hc hr => ?_, kp⟩
          rcases hc with hc | hc
          · exact ok k hk (.inl hc) hr
          · rcases snoc k hc with e | e
            · subst e; exact hh hr
            · exact ok k hk (.inr e) hr
        refine ⟨_, rfl, _, rfl, _, _, rfl, rfl, _, rfl, ite2 (fun d => ?_) (fun d => ?_)⟩
        · have d := of_decide_eq_true d
          refine ⟨_, rfl, B.p, Cr, A.dx, _, _, rfl, R1.obj, TR.cl, TR.nPrices, rf_prices, _, rfl, A.lp, _, _, _, rfl, rfl, SqL.of R1.prices, atI_ints (j := j) rfl (by rw [prL_len]; exact hj2), _, rfl, c, Cc, B.dx, _, _, rfl, Z.obj, T.cl, T.nHeights, cf_heights, _, rfl, B.lh, _, _, _, rfl, rfl, SqL.of Z.hts, atI_ints (j := v) ev (by rw [CA.hl]; exact hv), _, _, rfl, rfl, _, rfl, c, Cc, B.dx, _, _, rfl, Z.obj, T.cl, T.nHeights, cf_heights, _, rfl, B.lh, _, _, _, rfl, rfl, SqL.of Z.hts, atI_ints (j := Pn.hd N j) rfl (by rw [CA.hl]; exact hhd), _, _, rfl, rfl, _, rfl, ite2 (fun e => ?_) (fun e => ?_)⟩
          · have e := of_decide_eq_true e
            rw [g_prL hj2] at e
            have hc : Pn.rc N h j < 0 := by unfold Pn.rc; rw [hjt]; omega
            obtain ⟨CA2, rd2⟩ := Pn.gain_step gd CA hP hj2 d hc
            refine ⟨_, rfl, B.p, A.dx, _, rfl, R1.obj, by rfl, _, rfl, (by show 1 ≤ sizeLine; decide), fun lp hlp => ?_⟩
            have s1 : Same H'' (upd H'' lp (.lst [V.int (j : Int)])) := fun b o e => by rw [upd_ne (ne_of_none e hlp)]; exact e
            refine ⟨_, rfl, B.p, lp, N, A, r, [j], Pn.g r j, rfl, Raw.same R1 s1, rl, upd_same, fun z => (by have := R1.room; rw [← z, hlp] at this; cases this), fun k hk => (by simp at hk; subst hk; exact hj2), fun H3 R3 k3 => ?_⟩
            have Z3 : CarAt Cc Cr H3 c B N A (Pn.pushL (Pn.g r j) r [j]) h x := (Z.same s1).setR k3 R3
            have Z4 := Z3.setX (x' := x.set v (Pn.g x v - Pn.g r j))
            have xl := CA.xl
            refine ⟨_, rfl, c, Cc, B.dx, _, _, rfl, Z3.obj, T.cl, T.nExtra, cf_extra, _, rfl, B.lx, _, _, v, _, rfl, rfl, Z3.ext, ev, ints_at (by rw [xl]; exact hv), _, rfl, _, _, rfl, rfl, B.lx, _, _, v, rfl, rfl, Z3.ext, ixN_nat ev (by rw [List.length_map, xl]; exact hv), ?_⟩
            rw [ints_set]
            refine ⟨_, rfl, c, Cc, B.dx, _, _, rfl, Z4.obj, T.cl, T.nExtra, cf_extra, _, rfl, B.lx, _, _, Pn.hd N j, _, rfl, rfl, Z4.ext, rfl, ints_at (by rw [List.length_set, xl]; exact hhd), _, rfl, _, _, rfl, rfl, B.lx, _, _, Pn.hd N j, rfl, rfl, Z4.ext, ixN_nat rfl (by rw [List.length_map, List.length_set, xl]; exact hhd), ?_⟩
            rw [ints_set]
            rw [hjt] at CA2
            refine ⟨_, _, _, _, _, rfl, Z4.setX, CA2, fun k hk hc hr => ?_, ?_⟩
            · refine rd2 k hk ?_ hr
              rcases hc with hc | hc
              · exact .inr (ok k hk (.inl hc))
              · rcases snoc k hc with e | e
                · exact .inl e
                · exact .inr (ok k hk (.inr e))
            · exact (((kp.trans (fun b o e _ => s1 b o e)).trans (k3.mono (by simp))).upd (by simp)).upd (by simp)
          · have e : ¬ (Pn.g (prL N) j + Pn.g h v < Pn.g h (Pn.hd N j)) := fun z => e (decide_eq_true z)
            rw [g_prL hj2] at e
            exact stay (fun _ => by unfold Pn.rc; rw [hjt]; omega)
        · have d : ¬ P ≤ Pn.g r j := fun z => d (decide_eq_true z)
          exact iteF (stay fun z => absurd z d)
      · rintro σ H'' ⟨v4, v5, v6, r, x, rfl, Z, CA, ok, kp⟩
        refine ⟨_, _, _, _, r, x, rfl, Z, CA, fun k hk ht hr => ok k hk ?_ hr, kp⟩
        by_cases e : Pn.tl N k < v
        · exact .inl e
        · have : Pn.tl N k = v := by omega
          obtain ⟨y', h1, h2⟩ := List.getElem_of_mem (Pn.mem_lanes.mpr ⟨hk, this⟩)
          exact .inr ⟨y', by rw [List.length_map]; exact h1, by rw [List.getElem?_eq_getElem h1, h2]⟩
    · rintro σ H' ⟨v3, v4, v5, v6, r, x, rfl, Z, CA, ok, kp⟩
      exact k H' r x Z CA (fun j hj hr => ok j hj (Pn.tl_lt gd hj) hr) kp
end
end Px
set_option Elab.async false
set_option linter.all false
set_option maxRecDepth 100000
set_option maxHeartbeats 2000000
namespace Px
open PySem PySem.Spec PyProof.Rows L2
/-! ### Carrier.carry_once -/
def spOnce (Cc Cr : Addr) : Sp := fun vs H Q _ => ∃ (c : Addr) (B : CB) (N : Pn.FN) (A : RA) (P units : Int) (s t : Nat) (r h x : List Int), vs = [.ref c, .int P] ∧ CarAt Cc Cr H c B N A r h x ∧ N.Good ∧ N.n ≤ 256 ∧ N.m ≤ 4096 ∧ 0 < P ∧ Pn.Car N s t units r h x ∧ Pn.Red N P r h ∧
  (∀ (H' : Hp) (r' h' x' : List Int), CarAt Cc Cr H' c B N A r' h' x' → Pn.Car N s t units r' h' x' → Pn.Red N P r' h' → Pn.posx N x' < Pn.posx N x → Kp [B.lh, B.lx, A.lr] H H' → Q (.bl true) H') ∧
  (∀ (H' : Hp) (dl en : List Int) (S : List Nat) (d : Int), Pn.Dj N P r h x dl en S [] d [] → CarAt Cc Cr H' c B N A r h x → Kp [B.lh, B.lx, A.lr] H H' → Q (.bl false) H')
theorem scOnce : FnScope ["self", "portion", "search", "goal", "place", "path", "start", "units", "lane"] ["self", "portion"] (defScope sOnce) := ⟨rfl, rfl, rfl, by decide +kernel, rfl, by decide +kernel, by decide +kernel⟩
section
variable {P : Program} {w : World} {K : PySem.W.Frag} {mg : Str → Option Value} {base : Heap}
theorem ok_once {f Cs Cc Cr : Addr} {fd : FuncData} (F : Fun K "carry_once" "Carrier.carry_once" sOnce f fd) (TS : TSea K Cs) (T : TCar K Cc) (TR : TRoo K Cr) (TBb : TB mg)
    (GI : IF P w K mg base CX0 1 "Search" Cs ["self", "carrier", "portion"] (spSeaI Cs Cc Cr)) (GN : MF P w K mg base CX0 3 Cs "nearest_lack" ["self"] (spNear Cs Cr)) (GT : MF P w K mg base CX0 1 Cs "path_to" ["self", "goal"] (spPath Cs Cr))
    (GP : MF P w K mg base CX0 1 Cr "push" ["self", "path", "units"] (spPush Cr)) :
    FnOk P w K mg base CX0 4 f fd ["self", "portion"] (spOnce Cc Cr) := by
  obtain ⟨fI, fdI, GI, bI, mI, gI⟩ := GI
  obtain ⟨fN, fdN, GN, bN, mN⟩ := GN
  obtain ⟨fT, fdT, GT, bT, mT⟩ := GT
  obtain ⟨fP, fdP, GP, bP, mP⟩ := GP
  refine F.ok scOnce (fun vs H Q E h => ?_) (fun cdv A outer s H vs Q E hr h => ?_)
  · obtain ⟨c, B, N, A, P, units, s, t, r, h, x, rfl, _⟩ := h
    rfl
  · obtain ⟨c, B, N, A, P, units, s, t, r, h, x, rfl, Z, gd, hn, hm, hP, CA, rd, k1, k2⟩ := h
    have nd := scOnce.nd
    have hr1 : Room 1 _ := hr.mono (by decide)
    have hr2 : Room 2 _ := hr.mono (by decide)
    refine ⟨_, pss_cons (ps_set (i := 2) nd rfl (Or.inl rfl) (pe_make mI GI hr2 rfl gI bI .nil pass0 (pa_cons (pv 0) (pa_cons (pv 1) pa_nil))))
      (pss_cons (ps_set (i := 3) nd rfl (Or.inl rfl) (pe_meth0 (pv 2) TS.cl mN GN hr bN .nil pass0))
      (pss_cons (ps_if (pt_cmpR op_lt (pv 3) pe_int (nomark _)) (pss_one (ps_ret pe_bl)) pss_nil)
      (pss_cons (ps_for PassesOwn.never rfl (pi_list (pe_fld (pv 2) rfl)) (pg_name (i := 4) nd rfl (Or.inl rfl))
        (pss_one (ps_augS (pe_fld (pv 0) rfl) (pv 4) get_list (pe_op op_sub (pe_ix ix_list (pe_fld (pv 2) rfl) (pv 4) (fun _ _ => rfl)) (pe_ix ix_list (pe_fld (pv 2) rfl) (pv 3) (fun _ _ => rfl))) ip_add set_list)))
      (pss_cons (ps_set (i := 5) nd rfl (Or.inl rfl) (pe_meth (pv 2) TS.cl mT GT hr1 bT .nil pass0 (pa_cons (pv 3) pa_nil)))
      (pss_cons (ps_set (i := 6) nd rfl (Or.inl rfl) (pe_ix ix_list (pe_fld (pe_fld (pv 0) rfl) rfl) (pe_op op_xor (pe_ix ix_list (pv 5) (pe_un un_neg pe_int) (fun _ _ => rfl)) pe_int) (fun _ _ => rfl)))
      (pss_cons (ps_set (i := 7) nd rfl (Or.inl rfl) (pe_callB (call_min3 rfl) (by rfl) TBb.min boot_min (pa_cons (pe_ix ix_list (pe_fld (pv 0) rfl) (pv 6) (fun _ _ => rfl)) (pa_cons (pe_un un_neg (pe_ix ix_list (pe_fld (pv 0) rfl) (pv 3) (fun _ _ => rfl))) (pa_cons
          (pe_callB (cr_min rfl) (by rfl) TBb.min boot_min (pa_cons (pe_lc (own := [("lane", 8)]) rfl nd (pi_list (pv 5)) (blkOk_by (by rfl)) (fun _ _ _ _ _ => pg_name (i := 8) nd rfl (Or.inl rfl)) (fun _ _ _ _ _ => pts_nil) (fun _ _ _ _ _ => pe_ix (ix_listK K) (pe_fldK K (pe_fldK K (pv 0) rfl) rfl) (pv 8) (fun _ _ => rfl))) pa_nil)) pa_nil)))))
      (pss_cons (ps_expr (pe_meth (pe_fld (pv 0) rfl) TR.cl mP GP hr1 bP .nil pass0 (pa_cons (pv 5) (pa_cons (pv 7) pa_nil))))
      (pss_cons (ps_augS (pe_fld (pv 0) rfl) (pv 6) get_list (pv 7) ip_sub set_list)
      (pss_cons (ps_augS (pe_fld (pv 0) rfl) (pv 3) get_list (pv 7) ip_add set_list)
      (pss_one (ps_ret pe_bl))))))))))), ?_⟩
    -- search = Search(self, portion)
    refine ⟨_, rfl, _, rfl, fun q dq nq ndq neq => ?_⟩
    generalize e1 : upd (upd H dq (.own q)) q (.ins Cs dq []) = H1
    have s1 : Same H H1 := fun b o e => by rw [← e1, upd_ne (ne_of_none e nq), upd_ne (ne_of_none e ndq)]; exact e
    have q1 : H1 q = some (.ins Cs dq []) := by rw [← e1]; exact upd_same
    refine ⟨q, dq, c, B, N, A, P, r, h, x, rfl, q1, Z.same s1, hn, fun H2 D eDp eDh eDx Z2 fr2 kp2 => ⟨rfl, ?_⟩⟩
    obtain ⟨dx', p', lh', lx', ld, le, lS, lW⟩ := D
    dsimp only at eDp eDh eDx fr2
    subst eDp eDh eDx
    have frH : ∀ b, b ∈ [ld, le, lS, lW] → H b = none := fun b hb => s1.free (fr2 b hb)
    have qc : c ≠ q := ne_of_none Z.obj nq
    have k12 : Kp [q] H H2 := fun b o e nb => kp2 b o (s1 b o e) nb
    -- goal = search.nearest_lack()
    refine ⟨_, rfl, q, _, _, rfl, Z2.obj, by rfl, q, _, N, A, P, r, h, x, rfl, Z2, gd, hn, hm, hP, CA.hl, CA.xl, CA.room.len, rd, fun H3 dl en W S0 d goal Z3 J hgd hgx kp3 => ?_, fun H3 dl en S d J kp3 => ?_⟩
    · have k3 : Kp [] H H3 := fun b o e _ => kp3 b o (k12 b o e (fun z => by simp at z; rw [z, nq] at e; cases e)) (fun z => by rw [frH b z] at e; cases e)
      have o3 : ∀ {H' : Hp} {W : List Addr}, Kp W H H' → c ∉ W → H' c = some (.ins Cc B.dx (cf B.p B.lh B.lx)) := fun kk n => kk _ _ Z.obj n
      have hgoal : goal < N.n := (J.slt goal (by simp)).1
      refine ⟨_, rfl, _, _, rfl, rfl, _, rfl, ite2 (fun z => absurd (of_decide_eq_true z) (by omega)) (fun _ => ?_)⟩
      have cn := Z.ne
      have sn := Z3.ne
      -- the heights
      refine ⟨_, rfl, q, Cs, dx', _, _, rfl, Z3.obj, TS.cl, TS.nSettled, sf_settled, lS, rfl, ⟨_, SqL.of Z3.set⟩, ?_⟩
      refine for_list (K := K) (a := lS) (xs := nN (S0 ++ [goal])) (fun i σ H' => ∃ (v4 : Option V) (h' : List Int), σ = [some (.ref c), some (.int P), some (.ref q), some (.int goal), v4, none, none, none, none] ∧ SeaAt Cs Cr H' q ⟨dx', B.p, B.lh, B.lx, ld, le, lS, lW⟩ N A P r h' x dl en (S0 ++ [goal]) W ∧ h'.length = N.n ∧ (∀ p, p < N.n → Pn.g h' p = Pn.g h p + (if p ∈ (S0 ++ [goal]).take i then Pn.g dl p - Pn.g dl goal else 0)) ∧ Kp [B.lh] H H')
        ⟨none, h, rfl, Z3, CA.hl, fun p _ => by simp, k3.mono (by simp)⟩ (fun i σ H' _ ⟨_, _, _, z, _⟩ => SqL.of z.set) ?_ ?_
      · rintro i y σ H' hi ⟨v4, h', rfl, Z4, hl4, hg4, kp4⟩
        obtain ⟨v, hv, rfl⟩ := nN_at' hi
        have hvn := (J.slt v (List.mem_of_getElem? hv)).1
        have oc := o3 kp4 (by simp [cn.ch])
        refine ⟨_, rfl, c, Cc, B.dx, _, _, rfl, oc, T.cl, T.nHeights, cf_heights, _, rfl, B.lh, _, _, v, _, rfl, rfl, Z4.hts, rfl, ints_at (by rw [hl4]; exact hvn), _, rfl, q, Cs, dx', _, _, rfl, Z4.obj, TS.cl, TS.nDistances, sf_distances, _, rfl, ld, _, _, _, rfl, rfl, SqL.of Z4.dis, atI_ints (j := v) rfl (by rw [J.dlen]; exact hvn), _, rfl, q, Cs, dx', _, _, rfl, Z4.obj, TS.cl, TS.nDistances, sf_distances, _, rfl, ld, _, _, _, rfl, rfl, SqL.of Z4.dis, atI_ints (j := goal) rfl (by rw [J.dlen]; exact hgoal), _, _, rfl, rfl, _, _, rfl, rfl, B.lh, _, _, v, rfl, rfl, Z4.hts, ixN_nat rfl (by rw [List.length_map, hl4]; exact hvn), ?_⟩
        rw [ints_set]
        have et : (S0 ++ [goal]).take (i + 1) = (S0 ++ [goal]).take i ++ [v] := by rw [List.take_add_one, hv]; rfl
        have nv : v ∉ (S0 ++ [goal]).take i := fun m => by
          obtain ⟨i', h1, h2⟩ := List.getElem_of_mem m
          rw [List.getElem_take] at h2
          rw [List.length_take] at h1
          have : i' = i := nd_ix J.nd (by rw [← h2]; exact List.getElem?_eq_getElem _) hv
          omega
        refine ⟨_, _, rfl, ⟨?_, Raw.off Z4.rooms ((Kp.refl H').upd (W := [B.lh]) (by simp)) (fun b hb => by simp at hb; subst hb; exact cn.hA), upd_same, ?_, ?_, ?_, ?_, ?_, Z4.nd⟩, by rw [List.length_set]; exact hl4, fun p hp => ?_, kp4.upd (by simp)⟩
        · rw [upd_ne (ne_of Z4.obj Z4.hts (by intro z; cases z))]; exact Z4.obj
        · show upd H' B.lh _ B.lx = _
          rw [upd_ne (Ne.symm cn.hx)]; exact Z4.ext
        · show upd H' B.lh _ ld = _
          rw [upd_ne sn.dh]; exact Z4.dis
        · show upd H' B.lh _ le = _
          rw [upd_ne sn.eh]; exact Z4.ent
        · show upd H' B.lh _ lS = _
          rw [upd_ne sn.Sh]; exact Z4.set
        · show upd H' B.lh _ lW = _
          rw [upd_ne sn.Wh]; exact Z4.wai
        · rw [Pn.g_set _ (by rw [hl4]; exact hvn), et]
          by_cases e : p = v
          · subst e
            rw [if_pos rfl, if_pos (by simp), hg4 p hp, if_neg nv]; dsimp only; omega
          · rw [if_neg e, hg4 p hp]
            by_cases e2 : p ∈ (S0 ++ [goal]).take i
            · rw [if_pos e2, if_pos (List.mem_append_left _ e2)]
            · rw [if_neg e2, if_neg (fun m => by rcases List.mem_append.mp m with m | m; exact e2 m; simp at m; exact e m)]
      · rintro σ H4 ⟨v4, h', rfl, Z4, hl4, hg4, kp4⟩
        rw [List.length_map, List.take_length] at hg4
        -- the path back
        obtain ⟨path, src, BK⟩ := Pn.back_ok J S0.length S0 goal [] (Nat.le_refl _) rfl
        have hne := BK.ne hP hgx
        obtain ⟨ll, hlast, hsrc⟩ := BK.last hne
        have pm : ∀ j, j ∈ path → j < 2 * N.m := fun j hj => (BK.lanes j hj).1
        have plen : path.length ≤ 256 := by
          have := Pn.nodup_lt N.n (path.map (Pn.hd N)) BK.heads (fun z hz => by
            obtain ⟨j, hj, e⟩ := List.mem_map.mp hz
            rw [← e]; exact Pn.hd_lt gd (pm j hj))
          rw [List.length_map] at this
          omega
        have llm : ll ∈ path := List.mem_of_getLast? hlast
        have hsn : src < N.n := by rw [← hsrc]; exact Pn.tl_lt gd (pm ll llm)
        refine ⟨_, rfl, q, _, _, rfl, Z4.obj, by rfl, _, rfl, q, _, N, A, P, r, h', x, dl, en, _, W, goal, src, path, rfl, Z4, gd, J.elen, hgoal, BK.bp, plen, fun H5 lq hlq hlq0 s5 => ?_⟩
        have Z5 := Z4.same s5
        have kp5 : Kp [B.lh] H H5 := kp4.trans (fun b o e _ => s5 b o e)
        have oc5 := o3 kp5 (by simp [cn.ch])
        have Y5 : CarAt Cc Cr H5 c B N A r h' x := ⟨oc5, Z5.rooms, Z5.hts, Z5.ext, Z.nd⟩
        have R5 := Z5.rooms
        -- start
        have elast : atI (nN path) (-1) = some (V.int (ll : Int)) := by
          obtain ⟨l', el⟩ := List.getLast?_eq_some_iff.mp hlast
          rw [el]
          unfold nN
          rw [List.map_append]
          exact atI_last _ _
        refine ⟨_, rfl, c, Cc, B.dx, _, _, rfl, oc5, T.cl, T.nRooms, cf_rooms, B.p, Cr, A.dx, _, _, rfl, R5.obj, TR.cl, TR.nHeads, rf_heads, _, rfl, _, rfl, lq, _, _, _, rfl, rfl, SqL.of hlq, elast, _, _, rfl, rfl, A.lh, _, _, _, rfl, rfl, SqL.of R5.heads, atI_ints (j := Pn.ot ll) (xor1 ll) (by rw [hdL_len]; exact Pn.ot_lt (pm ll llm)), ?_⟩
        rw [g_hdL (Pn.ot_lt (pm ll llm)), Pn.hd_ot, hsrc]
        -- units
        refine ⟨_, rfl, c, Cc, B.dx, _, _, rfl, oc5, T.cl, T.nExtra, cf_extra, _, rfl, B.lx, _, _, _, rfl, rfl, SqL.of Z5.ext, atI_ints (j := src) rfl (by rw [CA.xl]; exact hsn), _, rfl, c, Cc, B.dx, _, _, rfl, oc5, T.cl, T.nExtra, cf_extra, _, rfl, B.lx, _, _, _, rfl, rfl, SqL.of Z5.ext, atI_ints (j := goal) rfl (by rw [CA.xl]; exact hgoal), _, rfl, _, rfl, lq, rfl, ⟨_, SqL.of hlq⟩, fun LD hLD => ?_⟩
        refine lc_list (K := K) (a := lq) (xs := nN path) (fun i H2 => H2 LD = some (.lst (nI ((path.take i).map (Pn.g r)))) ∧ Same H5 H2) ⟨upd_same, fun b o e => by rw [upd_ne (ne_of_none e hLD)]; exact e⟩ (fun i H2 _ z => SqL.of (z.2 _ _ hlq)) ?_ ?_
        · rintro i y H6 hy ⟨y1, y2⟩
          obtain ⟨j, hj, rfl⟩ := nN_at' hy
          have hj2 := pm j (List.mem_of_getElem? hj)
          have Y6 := Y5.same y2
          refine ⟨rfl, tY ?_⟩
          refine ⟨_, rfl, c, Cc, B.dx, _, _, rfl, Y6.obj, T.cl, T.nRooms, cf_rooms, B.p, Cr, A.dx, _, _, rfl, Y6.rooms.obj, TR.cl, TR.nRoom, rf_room, _, rfl, A.lr, _, _, _, rfl, rfl, SqL.of Y6.rooms.room, atI_ints (j := j) rfl (by rw [CA.room.len]; exact hj2), _, y1, ?_, ?_, fun b o e => by rw [upd_ne (ne_of_none e hLD)]; exact y2 b o e⟩
          · simp [nI, sizeLine_eq]; omega
          · rw [upd_same, nI_snoc, List.take_add_one, hj, List.map_append]; rfl
        · rintro H6 ⟨y1, y2⟩
          rw [show (nN path).length = path.length by simp [nN], List.take_length] at y1
          refine ⟨LD, path.map (Pn.g r), rfl, SqL.of y1, by rw [List.length_map]; exact List.length_pos_iff.mpr hne, fun mn hmn hmin => ⟨_, _, _, rfl, fun u hu1 hu2 hu3 hu4 => ?_⟩⟩
          have Y6 := Y5.same y2
          obtain ⟨jm, hjm, ejm⟩ := List.mem_map.mp hmn
          have mnP : P ≤ mn := by rw [← ejm]; exact (BK.lanes jm hjm).2.1
          have hxs := BK.hsrc
          have u0 : 0 < u := by rcases hu4 with z | z | z <;> omega
          have u3 : ∀ j, j ∈ path → u ≤ Pn.g r j := fun j hj => by
            have := hmin _ (List.mem_map.mpr ⟨j, hj, rfl⟩)
            omega
          obtain ⟨CA2, rd2, px2⟩ := Pn.carry_ok gd hn CA rd hP J hgd hgx BK u0 hu1 hu2 u3 hl4 hg4
          have lqr : lq ≠ A.lr := fun z => by have := Z4.rooms.room; rw [← z, hlq0] at this; cases this
          -- push
          refine ⟨_, rfl, c, Cc, B.dx, _, _, rfl, Y6.obj, T.cl, T.nRooms, cf_rooms, B.p, A.dx, _, rfl, Y6.rooms.obj, by rfl, _, rfl, _, rfl, B.p, lq, N, A, r, path, u, rfl, Y6.rooms, CA.room.len, y2 _ _ hlq, lqr, pm, fun H7 R7 k7 => ?_⟩
          have Y7 := Y6.setR k7 R7
          have Y8 := Y7.setX (x' := x.set src (Pn.g x src - u))
          refine ⟨_, rfl, c, Cc, B.dx, _, _, rfl, Y7.obj, T.cl, T.nExtra, cf_extra, _, rfl, B.lx, _, _, src, _, rfl, rfl, Y7.ext, rfl, ints_at (by rw [CA.xl]; exact hsn), _, rfl, _, _, rfl, rfl, B.lx, _, _, src, rfl, rfl, Y7.ext, ixN_nat rfl (by rw [List.length_map, CA.xl]; exact hsn), ?_⟩
          rw [ints_set]
          refine ⟨_, rfl, c, Cc, B.dx, _, _, rfl, Y8.obj, T.cl, T.nExtra, cf_extra, _, rfl, B.lx, _, _, goal, _, rfl, rfl, Y8.ext, rfl, ints_at (by rw [List.length_set, CA.xl]; exact hgoal), _, rfl, _, _, rfl, rfl, B.lx, _, _, goal, rfl, rfl, Y8.ext, ixN_nat rfl (by rw [List.length_map, List.length_set, CA.xl]; exact hgoal), ?_⟩
          rw [ints_set]
          refine k1 _ _ _ _ Y8.setX CA2 rd2 px2 ?_
          refine Kp.upd (Kp.upd ?_ (by simp)) (by simp)
          exact (((kp5.mono (by simp)).trans (fun b o e _ => y2 b o e)).trans (k7.mono (by simp)))
    · have k3 : Kp [] H H3 := fun b o e _ => kp3 b o (k12 b o e (fun z => by simp at z; rw [z, nq] at e; cases e)) (fun z => by rw [frH b z] at e; cases e)
      refine ⟨_, rfl, _, _, rfl, rfl, _, rfl, iteT ?_⟩
      exact k2 H3 dl en S d J (Z.same fun b o e => k3 b o e (by simp)) (k3.mono (by simp))
end
end Px
set_option Elab.async false
set_option linter.all false
set_option maxRecDepth 100000
set_option maxHeartbeats 2000000
namespace Px
open PySem PySem.Spec PyProof.Rows L2
/-! ### carry_cheapest -/
def spCarry (Cr : Addr) : Sp := fun vs H Q _ => ∃ (p : Addr) (N : Pn.FN) (A : RA) (s t : Nat) (units : Int) (G : Nat → Int), vs = [.ref p, .int s, .int t, .int units] ∧ RoomsAt Cr H p N A (Pn.room0 N N.m) ∧ N.Good ∧ N.n ≤ 256 ∧ N.m ≤ 4096 ∧ s < N.n ∧ t < N.n ∧ 0 ≤ units ∧ Pn.IsFlow N s t G units ∧
  ∀ (H' : Hp) (r : List Int) (pi : Nat → Int), RoomsAt Cr H' p N A r → Pn.RoomOk N r → Pn.IsFlow N s t (Pn.Fl r) units → Pn.Pot N pi (Pn.Fl r) → Kp [A.lr] H H' → Q .non H'
theorem scCarry : FnScope ["rooms", "start", "goal", "units", "carrier", "portion"] ["rooms", "start", "goal", "units"] (defScope sCarry) := ⟨rfl, rfl, rfl, by decide +kernel, rfl, by decide +kernel, by decide +kernel⟩
section
variable {P : Program} {w : World} {K : PySem.W.Frag} {mg : Str → Option Value} {base : Heap}
theorem ok_carry {f Cc Cr : Addr} {fd : FuncData} (F : Fun K "carry_cheapest" "carry_cheapest" sCarry f fd) (T : TCar K Cc) (TR : TRoo K Cr) (TM : TN mg)
    (GI : IF P w K mg base CX0 1 "Carrier" Cc ["self", "rooms"] (spCarI Cc Cr)) (GG : MF P w K mg base CX0 2 Cc "fill_gainful" ["self", "portion"] (spGain Cc Cr)) (GO : MF P w K mg base CX0 4 Cc "carry_once" ["self", "portion"] (spOnce Cc Cr)) :
    FnOk P w K mg base CX0 5 f fd ["rooms", "start", "goal", "units"] (spCarry Cr) := by
  obtain ⟨fI, fdI, GI, bI, mI, gI⟩ := GI
  obtain ⟨fG, fdG, GG, bG, mG⟩ := GG
  obtain ⟨fO, fdO, GO, bO, mO⟩ := GO
  obtain ⟨tg, hgrain⟩ := TM.grain
  refine F.ok scCarry (fun vs H Q E h => ?_) (fun cdv A outer s H vs Q E hr h => ?_)
  · obtain ⟨p, N, A, s, t, units, G, rfl, _⟩ := h
    rfl
  · obtain ⟨p, N, A, s, t, units, G, rfl, R, gd, hn, hm, hs, ht, hu, fG', k⟩ := h
    have nd := scCarry.nd
    have hr2 : Room 2 _ := hr.mono (by decide)
    refine ⟨_, pss_cons (ps_set (i := 4) nd rfl (Or.inl rfl) (pe_make mI GI hr2 rfl gI bI .nil pass0 (pa_cons (pv 0) pa_nil)))
      (pss_cons (ps_augS (pe_fld (pv 4) rfl) (pv 1) get_list (pv 3) ip_add set_list)
      (pss_cons (ps_augS (pe_fld (pv 4) rfl) (pv 2) get_list (pv 3) ip_sub set_list)
      (pss_cons (ps_set (i := 5) nd rfl (Or.inl rfl) pe_int)
      (pss_cons (ps_while PassesOwn.never (pt_cmpR op_le (pe_op op_mul (pv 5) (pe_glob (v := V.int 16) rfl hgrain ⟨_, rfl⟩)) (pv 3) (nomark _)) (pss_one (ps_aug (i := 5) nd rfl (Or.inl rfl) (pe_glob (v := V.int 16) rfl hgrain ⟨_, rfl⟩) iop_mul)))
      (pss_one (ps_while PassesOwn.never (pt_cmpR op_gt (pv 5) pe_int (nomark _))
        (pss_cons (ps_expr (pe_meth (pv 4) T.cl mG GG hr2 bG .nil pass0 (pa_cons (pv 5) pa_nil)))
        (pss_cons (ps_while PassesOwn.never (pt_val (pe_meth (pv 4) T.cl mO GO hr bO .nil pass0 (pa_cons (pv 5) pa_nil))) (pss_one ps_pass))
        (pss_one (ps_aug (i := 5) nd rfl (Or.inl rfl) (pe_glob (v := V.int 16) rfl hgrain ⟨_, rfl⟩) iop_fdiv)))))))))), ?_⟩
    refine ⟨_, rfl, fun c dc nc ndc nec => ?_⟩
    generalize e1 : upd (upd H dc (.own c)) c (.ins Cc dc []) = H1
    have s1 : Same H H1 := fun b o e => by rw [← e1, upd_ne (ne_of_none e nc), upd_ne (ne_of_none e ndc)]; exact e
    have c1 : H1 c = some (.ins Cc dc []) := by rw [← e1]; exact upd_same
    refine ⟨c, dc, p, N, A, _, rfl, c1, Raw.same R s1, hn, fun H2 B eBp Z2 fh fx kp2 => ⟨rfl, ?_⟩⟩
    obtain ⟨dx', p', lh, lx⟩ := B
    dsimp only at eBp fh fx
    subst eBp
    have fhH : H lh = none := s1.free fh
    have fxH : H lx = none := s1.free fx
    have k2 : Kp [A.lr] H H2 := fun b o e _ => kp2 b o (s1 b o e) (fun z => by simp at z; rw [z, nc] at e; cases e)
    -- the extra
    have Z3 := Z2.setX (x' := (List.replicate N.n 0).set s (Pn.g (List.replicate N.n 0) s + units))
    refine ⟨_, rfl, c, Cc, dx', _, _, rfl, Z2.obj, T.cl, T.nExtra, cf_extra, _, rfl, lx, _, _, s, _, rfl, rfl, Z2.ext, rfl, ints_at (by simpa using hs), _, rfl, _, _, rfl, rfl, lx, _, _, s, rfl, rfl, Z2.ext, ixN_nat rfl (by simpa [nI] using hs), ?_⟩
    rw [ints_set]
    refine ⟨_, rfl, c, Cc, dx', _, _, rfl, Z3.obj, T.cl, T.nExtra, cf_extra, _, rfl, lx, _, _, t, _, rfl, rfl, Z3.ext, rfl, ints_at (by simpa using ht), _, rfl, _, _, rfl, rfl, lx, _, _, t, rfl, rfl, Z3.ext, ixN_nat rfl (by simpa [nI] using ht), ?_⟩
    rw [ints_set]
    have Z4 := Z3.setX (x' := ((List.replicate N.n 0).set s (Pn.g (List.replicate N.n 0) s + units)).set t (Pn.g ((List.replicate N.n 0).set s (Pn.g (List.replicate N.n 0) s + units)) t - units))
    have C4 := Pn.car_init (units := units) gd hs ht
    have k4 : ∀ {o : HO}, Kp [A.lr] H (upd (upd H2 lx o) lx (.lst (nI (((List.replicate N.n 0).set s (Pn.g (List.replicate N.n 0) s + units)).set t (Pn.g ((List.replicate N.n 0).set s (Pn.g (List.replicate N.n 0) s + units)) t - units))))) := fun {o} => (k2.fresh fxH).fresh fxH
    generalize e4 : upd (upd H2 lx _) lx _ = H4 at Z4
    have k4' : Kp [A.lr] H H4 := by rw [← e4]; exact k4
    clear k4 e4 Z3
    generalize ((List.replicate N.n 0).set s (Pn.g (List.replicate N.n 0) s + units)).set t (Pn.g ((List.replicate N.n 0).set s (Pn.g (List.replicate N.n 0) s + units)) t - units) = x0 at Z4 C4
    generalize List.replicate N.n (0 : Int) = h0 at Z4 C4
    -- the portion
    obtain ⟨W1, hW1⟩ : ∃ W : Nat → L2.St → Hp → Prop, ∀ m σ H', W m σ H' ↔ ∃ kk : Nat, m = (units - ((16 ^ kk : Nat) : Int)).toNat ∧ σ = [some (.ref p'), some (.int s), some (.int t), some (.int units), some (.ref c), some (.int ((16 ^ kk : Nat) : Int))] ∧ H' = H4 := ⟨_, fun _ _ _ => Iff.rfl⟩
    refine ⟨W1, ⟨_, (hW1 _ _ _).mpr ⟨0, rfl, rfl, rfl⟩⟩, ?_⟩
    intro m σ H' hw
    obtain ⟨kk, rfl, rfl, rfl⟩ := (hW1 _ _ _).mp hw
    have p16 : 0 < 16 ^ kk := Nat.pow_pos (by decide)
    have e16 : ((16 ^ kk : Nat) : Int) * 16 = ((16 ^ (kk + 1) : Nat) : Int) := by rw [Nat.pow_succ]; omega
    refine ⟨_, rfl, _, _, rfl, rfl, .inr ⟨by decide, by decide⟩, _, rfl, _, _, rfl, rfl, _, rfl, ite2 (fun d => ?_) (fun d => ?_)⟩
    · have d := of_decide_eq_true d
      refine ⟨fun σ' H'' => ∃ m', m' < (units - ((16 ^ kk : Nat) : Int)).toNat ∧ W1 m' σ' H'', fun _ _ z => z, ?_⟩
      refine ⟨_, rfl, _, _, rfl, rfl, .inr ⟨by decide, by decide⟩, ?_⟩
      dsimp only
      rw [e16] at d ⊢
      exact ⟨_, by omega, (hW1 _ _ _).mpr ⟨kk + 1, rfl, rfl, rfl⟩⟩
    · clear d hw
      obtain ⟨W2, hW2⟩ : ∃ W : Nat → L2.St → Hp → Prop, ∀ m σ H'', W m σ H'' ↔ ∃ (pp : Int) (r h x : List Int), σ = [some (.ref p'), some (.int s), some (.int t), some (.int units), some (.ref c), some (.int pp)] ∧ CarAt Cc Cr H'' c ⟨dx', p', lh, lx⟩ N A r h x ∧ Pn.Car N s t units r h x ∧ Kp [A.lr] H H'' ∧
        ((∃ kk : Nat, m = kk + 1 ∧ pp = ((16 ^ kk : Nat) : Int)) ∨ (m = 0 ∧ pp = 0 ∧ (∀ v, v < N.n → Pn.g x v = 0) ∧ Pn.Red N 1 r h)) := ⟨_, fun _ _ _ => Iff.rfl⟩
      refine ⟨W2, ⟨_, (hW2 _ _ _).mpr ⟨_, _, h0, x0, rfl, Z4, C4, k4', .inl ⟨kk, rfl, rfl⟩⟩⟩, ?_⟩
      intro m σ H5 hw
      obtain ⟨pp, r, h, x, rfl, Z5, C5, k5, alt⟩ := (hW2 _ _ _).mp hw
      refine ⟨_, rfl, _, _, rfl, rfl, _, rfl, ite2 (fun d => ?_) (fun d => ?_)⟩
      · have d := of_decide_eq_true d
        rcases alt with ⟨kk, rfl, rfl⟩ | ⟨_, z, _⟩
        · refine ⟨fun σ' H'' => ∃ m', m' < kk + 1 ∧ W2 m' σ' H'', fun _ _ z => z, ?_⟩
          refine ⟨_, rfl, c, dx', _, rfl, Z5.obj, by rfl, _, rfl, c, _, N, A, _, units, s, t, r, h, x, rfl, Z5, gd, hn, d, C5, fun H6 r6 x6 Z6 C6 rd6 kp6 => ?_⟩
          have k6 : Kp [A.lr] H H6 := fun b o e nb => kp6 b o (k5 b o e nb) (fun z => by
            rw [List.mem_cons] at z
            rcases z with z | z
            · rw [z] at e; rw [fxH] at e; cases e
            · exact nb z)
          obtain ⟨W3, hW3⟩ : ∃ W : Nat → L2.St → Hp → Prop, ∀ m σ H'', W m σ H'' ↔ ∃ (r h x : List Int), m = (Pn.posx N x).toNat ∧ σ = [some (.ref p'), some (.int s), some (.int t), some (.int units), some (.ref c), some (.int ((16 ^ kk : Nat) : Int))] ∧ CarAt Cc Cr H'' c ⟨dx', p', lh, lx⟩ N A r h x ∧ Pn.Car N s t units r h x ∧ Pn.Red N ((16 ^ kk : Nat) : Int) r h ∧ Kp [A.lr] H H'' := ⟨_, fun _ _ _ => Iff.rfl⟩
          refine ⟨W3, ⟨_, (hW3 _ _ _).mpr ⟨r6, h, x6, rfl, rfl, Z6, C6, rd6, k6⟩⟩, ?_⟩
          intro m σ H7 hw7
          obtain ⟨r7, h7, x7, rfl, rfl, Z7, C7, rd7, k7⟩ := (hW3 _ _ _).mp hw7
          have kq : ∀ {H8 : Hp}, Kp [lh, lx, A.lr] H7 H8 → Kp [A.lr] H H8 := fun kp8 b o e nb => kp8 b o (k7 b o e nb) (fun z => by
            rw [List.mem_cons, List.mem_cons] at z
            rcases z with z | z | z
            · rw [z, fhH] at e; cases e
            · rw [z, fxH] at e; cases e
            · exact nb z)
          refine ⟨_, rfl, c, dx', _, rfl, Z7.obj, by rfl, _, rfl, c, _, N, A, _, units, s, t, r7, h7, x7, rfl, Z7, gd, hn, hm, d, C7, rd7, fun H8 r8 h8 x8 Z8 C8 rd8 px kp8 => ⟨_, rfl, iteT ?_⟩, fun H8 dl en S dd J Z8 kp8 => ⟨_, rfl, iteF ?_⟩⟩
          · have := Pn.posx_nn (N := N) (x := x8)
            refine ⟨fun σ' H'' => ∃ m', m' < (Pn.posx N x7).toNat ∧ W3 m' σ' H'', fun _ _ z => z, ?_⟩
            exact ⟨_, by omega, (hW3 _ _ _).mpr ⟨r8, h8, x8, rfl, rfl, Z8, C8, rd8, kq kp8⟩⟩
          · refine ⟨_, rfl, _, _, rfl, rfl, ⟨by decide, by decide⟩, ?_⟩
            cases kk with
            | zero =>
              refine ⟨0, by omega, (hW2 _ _ _).mpr ⟨_, r7, h7, x7, rfl, Z8, C7, kq kp8, .inr ⟨rfl, by decide, ?_, rd7⟩⟩⟩
              exact Pn.carry_end gd C7 fG' hs ht J
            | succ kk =>
              refine ⟨kk + 1, by omega, (hW2 _ _ _).mpr ⟨_, r7, h7, x7, rfl, Z8, C7, kq kp8, .inl ⟨kk, rfl, ?_⟩⟩⟩
              rw [Nat.pow_succ]
              omega
        · omega
      · rcases alt with ⟨kk, _, z⟩ | ⟨_, _, z1, z2⟩
        · exfalso
          apply d
          rw [z]
          have : 0 < 16 ^ kk := Nat.pow_pos (by decide)
          exact decide_eq_true (by omega)
        · exact k H5 r (Pn.g h) Z5.rooms C5.room (Pn.car_flow C5 z1) (Pn.car_pot C5 z2) k5
end
end Px
set_option Elab.async false
set_option linter.all false
set_option maxRecDepth 100000
set_option maxHeartbeats 2000000
namespace Px
open PySem PySem.Spec PyProof.Rows L2
open Sw14 (Pipe Net Right)
section
variable {P : Program} {w : World} {K : PySem.W.Frag} {mg : Str → Option Value} {base : Heap}
/-- a def that may raise -/
theorem okE {x qual : Str} {st : Stmt} {f : Addr} {fd : FuncData} {N ps : List Str} {k : Nat} {sp : Sp} (F : Fun K x qual st f fd) (S : FnScope N ps (defScope st)) (len : ∀ vs H Q E, sp vs H Q E → vs.length = ps.length)
    (hbody : ∀ (cdv : Value) (A : Around) (outer : List Env) (s : Shared) (H : Hp) (vs : List V) (Q : VK) (E : XK), Room k (A.deeper (envOfC qual (defScope st) s.heap.objs.size f cdv)) → sp vs H Q E →
      ∃ t, PSs (cxOf (CXE P w) P w K mg base N qual (defScope st) f cdv A outer s H E) (defBody st) t ∧ t { nx := fun _ H' => Q .non H', rt := Q } (start N vs) H) : FnOk P w K mg base (CXE P w) (k + 1) f fd ps sp := by
  obtain ⟨oc, od, kV, doc, pm, an, cdv, ct, osl, rfl, lk, hcd⟩ := F.ex
  refine fn_of lk hcd S len fun A outer s H vs Q E hr hsp => ?_
  exact hbody cdv A outer s H vs Q E hr hsp
/-- an own error's class -/
structure TX (K : PySem.W.Frag) (mg : Str → Option Value) (x : Str) (C : Addr) : Prop where
  mgx : mg x = some (.ref C)
  ex : ∃ bm newId, PySem.W.excIn K C bm newId = true ∧ ∃ B initId, ExcBaseFacts B newId initId bm
/-! ### check_range -/
def spRange (Co : Addr) : Sp := fun vs H Q E => ∃ (n lo hi : Int), vs = [.int n, .int lo, .int hi] ∧ (lo ≤ n → n ≤ hi → Q .non H) ∧ ((n < lo ∨ hi < n) → E (.ref Co) none H)
theorem scRange : FnScope ["number", "lowest", "greatest"] ["number", "lowest", "greatest"] (defScope sRange) := ⟨rfl, rfl, rfl, by decide +kernel, rfl, by decide +kernel, by decide +kernel⟩
theorem ok_range {f Co : Addr} {fd : FuncData} (F : Fun K "check_range" "check_range" sRange f fd) (TO : TX K mg "OutOfRange" Co) : FnOk P w K mg base (CXE P w) 1 f fd ["number", "lowest", "greatest"] (spRange Co) := by
  obtain ⟨bm, nid, hx, Bb, iid, FB⟩ := TO.ex
  refine okE F scRange (fun vs H Q E h => ?_) (fun cdv A outer s H vs Q E hr h => ?_)
  · obtain ⟨n, lo, hi, rfl, _⟩ := h
    rfl
  · obtain ⟨n, lo, hi, rfl, k1, k2⟩ := h
    refine ⟨_, pss_one (ps_if (PW.pt (pw_or (pt_cmpR op_lt (pv 0) (pv 1) (nomark _)) (pw_or1 (pt_cmpR op_gt (pv 0) (pv 2) (nomark _))))) (pss_one (ps_raise hr.hd rfl TO.mgx hx FB)) pss_nil), ?_⟩
    refine ⟨_, rfl, _, rfl, _, _, rfl, rfl, _, rfl, ite2 (fun c => ?_) (fun c => ?_)⟩
    · exact iteT (k2 (.inl (of_decide_eq_true c)))
    · have c : ¬ n < lo := fun z => c (decide_eq_true z)
      refine ⟨_, rfl, _, rfl, _, _, rfl, rfl, _, rfl, ite2 (fun d => ?_) (fun d => ?_)⟩
      · exact k2 (.inr (of_decide_eq_true d))
      · have d : ¬ hi < n := fun z => d (decide_eq_true z)
        exact k1 (by omega) (by omega)
/-! ### the net -/
def nf (n : Nat) (lp : Addr) (kv : V) : List (Str × V) := [("places", .int n), ("pipes", .ref lp), ("kept", kv)]
def ff (p : Addr) (s t : Nat) (b : Bool) : List (Str × V) := [("rooms", .ref p), ("start", .int s), ("goal", .int t), ("is_fullest", .bl b)]
theorem nf_places {n : Nat} {lp : Addr} {kv : V} : (nf n lp kv).lookup ("places" : Str) = some (.int n) := by rfl
theorem nf_pipes {n : Nat} {lp : Addr} {kv : V} : (nf n lp kv).lookup ("pipes" : Str) = some (.ref lp) := by rfl
theorem nf_kept {n : Nat} {lp : Addr} {kv : V} : (nf n lp kv).lookup ("kept" : Str) = some kv := by rfl
theorem ff_rooms {p : Addr} {s t : Nat} {b : Bool} : (ff p s t b).lookup ("rooms" : Str) = some (.ref p) := by rfl
theorem ff_start {p : Addr} {s t : Nat} {b : Bool} : (ff p s t b).lookup ("start" : Str) = some (.int s) := by rfl
theorem ff_goal {p : Addr} {s t : Nat} {b : Bool} : (ff p s t b).lookup ("goal" : Str) = some (.int t) := by rfl
theorem ff_full {p : Addr} {s t : Nat} {b : Bool} : (ff p s t b).lookup ("is_fullest" : Str) = some (.bl b) := by rfl
structure TNet (K : PySem.W.Frag) (C : Addr) : Prop where
  cl : Cls K C
  nPlaces : NoAttr K C "places"
  nPipes : NoAttr K C "pipes"
  nKept : NoAttr K C "kept"
structure TFlo (K : PySem.W.Frag) (C : Addr) : Prop where
  cl : Cls K C
  nRooms : NoAttr K C "rooms"
  nStart : NoAttr K C "start"
  nGoal : NoAttr K C "goal"
  nFull : NoAttr K C "is_fullest"
/-! ### check_place, check_ends -/
def spPlace (Cn Co : Addr) : Sp := fun vs H Q E => ∃ (a dx lp : Addr) (n : Nat) (kv : V) (z : Int), vs = [.ref a, .int z] ∧ H a = some (.ins Cn dx (nf n lp kv)) ∧ (0 ≤ z → z < n → Q .non H) ∧ (¬ (0 ≤ z ∧ z < n) → E (.ref Co) none H)
theorem scPlace : FnScope ["self", "place"] ["self", "place"] (defScope sPlace) := ⟨rfl, rfl, rfl, by decide +kernel, rfl, by decide +kernel, by decide +kernel⟩
theorem ok_place {f Cn Co : Addr} {fd : FuncData} (F : Fun K "check_place" "Net.check_place" sPlace f fd) (T : TNet K Cn) (GR : GF P w K mg base (CXE P w) 1 "check_range" ["number", "lowest", "greatest"] (spRange Co)) :
    FnOk P w K mg base (CXE P w) 2 f fd ["self", "place"] (spPlace Cn Co) := by
  obtain ⟨fR, fdR, GR, bR, mR, kR⟩ := GR
  refine okE F scPlace (fun vs H Q E h => ?_) (fun cdv A outer s H vs Q E hr h => ?_)
  · obtain ⟨a, dx, lp, n, kv, z, rfl, _⟩ := h
    rfl
  · obtain ⟨a, dx, lp, n, kv, z, rfl, ha, k1, k2⟩ := h
    refine ⟨_, pss_one (ps_expr (pe_call GR hr rfl mR kR bR .nil (passE (E' := E) fun _ _ _ z => z) (pa_cons (pv 1) (pa_cons pe_int (pa_cons (pe_op op_sub (pe_fld (pv 0) rfl) pe_int) pa_nil))))), ?_⟩
    refine ⟨_, rfl, _, rfl, a, Cn, dx, _, _, rfl, ha, T.cl, T.nPlaces, nf_places, _, _, rfl, rfl, _, _, _, rfl, fun h1 h2 => k1 h1 (by omega), fun h => k2 (by omega)⟩
def spEnds (Cn Co : Addr) : Sp := fun vs H Q E => ∃ (a dx lp : Addr) (n : Nat) (kv : V) (y z : Int), vs = [.ref a, .int y, .int z] ∧ H a = some (.ins Cn dx (nf n lp kv)) ∧ (0 ≤ y → y < n → 0 ≤ z → z < n → y ≠ z → Q .non H) ∧ (¬ (0 ≤ y ∧ y < n ∧ 0 ≤ z ∧ z < n ∧ y ≠ z) → E (.ref Co) none H)
theorem scEnds : FnScope ["self", "start", "goal"] ["self", "start", "goal"] (defScope sEnds) := ⟨rfl, rfl, rfl, by decide +kernel, rfl, by decide +kernel, by decide +kernel⟩
theorem ok_ends {f Cn Co : Addr} {fd : FuncData} (F : Fun K "check_ends" "Net.check_ends" sEnds f fd) (T : TNet K Cn) (TO : TX K mg "OutOfRange" Co) (GP : MF P w K mg base (CXE P w) 2 Cn "check_place" ["self", "place"] (spPlace Cn Co)) :
    FnOk P w K mg base (CXE P w) 3 f fd ["self", "start", "goal"] (spEnds Cn Co) := by
  obtain ⟨fP, fdP, GP, bP, mP⟩ := GP
  obtain ⟨bm, nid, hx, Bb, iid, FB⟩ := TO.ex
  refine okE F scEnds (fun vs H Q E h => ?_) (fun cdv A outer s H vs Q E hr h => ?_)
  · obtain ⟨a, dx, lp, n, kv, y, z, rfl, _⟩ := h
    rfl
  · obtain ⟨a, dx, lp, n, kv, y, z, rfl, ha, k1, k2⟩ := h
    refine ⟨_, pss_cons (ps_expr (pe_meth (pv 0) T.cl mP GP hr bP .nil (passE (E' := E) fun _ _ _ z => z) (pa_cons (pv 1) pa_nil)))
      (pss_cons (ps_expr (pe_meth (pv 0) T.cl mP GP hr bP .nil (passE (E' := E) fun _ _ _ z => z) (pa_cons (pv 2) pa_nil)))
      (pss_one (ps_if (pt_cmpR op_eq (pv 1) (pv 2) (nomark _)) (pss_one (ps_raise hr.hd rfl TO.mgx hx FB)) pss_nil))), ?_⟩
    refine ⟨_, rfl, a, dx, _, rfl, ha, by rfl, _, rfl, a, dx, lp, n, kv, y, rfl, ha, fun h1 h2 => ?_, fun h => k2 (by omega)⟩
    refine ⟨_, rfl, a, dx, _, rfl, ha, by rfl, _, rfl, a, dx, lp, n, kv, z, rfl, ha, fun h3 h4 => ?_, fun h => k2 (by omega)⟩
    refine ⟨_, rfl, _, rfl, rfl, _, rfl, ite2 (fun c => ?_) (fun c => ?_)⟩
    · have c := V.int.inj (of_decide_eq_true c)
      exact k2 (fun h => h.2.2.2.2 c)
    · exact k1 h1 h2 h3 h4 (fun h => c (decide_eq_true (congrArg V.int h)))
end
end Px
set_option Elab.async false
set_option linter.all false
set_option maxRecDepth 100000
set_option maxHeartbeats 2000000
namespace Px
open PySem PySem.Spec PyProof.Rows L2
open Sw14 (Pipe Net Right)
structure NB where
  dx : Addr
  lp : Addr
  ps : List Addr
  kl : List Addr
def fp (a : Addr) (B : NB) : List Addr := a :: B.lp :: (B.ps ++ B.kl)
structure KeptOk (Cf Cr : Addr) (H : Hp) (n : Net) (x : Sw14.Kept) (q dq p : Addr) (A : RA) (r : List Int) : Prop where
  obj : H q = some (.ins Cf dq (ff p x.s x.t (decide (x.value < x.most))))
  rooms : RoomsAt Cr H p (Pn.fn n) A r
  room : Pn.RoomOk (Pn.fn n) r
  flow : Pn.IsFlow (Pn.fn n) x.s x.t (Pn.Fl r) x.value
  full : Pn.Full (Pn.fn n) x.s x.t (Pn.Fl r) x.value x.most
  flow2 : Pn.IsFlow (Pn.fn n) x.s x.t (Pn.fl x.flow) x.value
  full2 : Pn.Full (Pn.fn n) x.s x.t (Pn.fl x.flow) x.value x.most
  hs : x.s < n.places
  ht : x.t < n.places
inductive KeptAt (Cf Cr : Addr) (H : Hp) (n : Net) : Option Sw14.Kept → V → List Addr → Prop
  | no : KeptAt Cf Cr H n none .non []
  | yes {x : Sw14.Kept} {q dq p : Addr} {A : RA} {r : List Int} : KeptOk Cf Cr H n x q dq p A r → KeptAt Cf Cr H n (some x) (.ref q) (q :: p :: A.all)
structure NetAt (Cn Cf Cr : Addr) (H : Hp) (a : Addr) (B : NB) (st : Sw14.St) (kv : V) : Prop where
  obj : H a = some (.ins Cn B.dx (nf st.net.places B.lp kv))
  kept : KeptAt Cf Cr H st.net st.kept kv B.kl
  pipes : PipesAt H B.lp st.net.pipes B.ps
  right : Right st.net
  pl0 : 2 ≤ st.net.places
  pl : st.net.places ≤ 256
  len : st.net.pipes.length ≤ 4096
  lim : ∀ x, x ∈ st.net.pipes → x.holds ≤ 2 ^ 62 ∧ x.cost ≤ 1000000000
section
variable {Cn Cf Cr : Addr} {H H' : Hp} {a : Addr} {B : NB} {st : Sw14.St} {kv : V}
theorem KeptAt.keep {n : Net} {o : Option Sw14.Kept} {kl : List Addr} (Z : KeptAt Cf Cr H n o kv kl) (k : ∀ b ob, H b = some ob → b ∈ kl → H' b = some ob) : KeptAt Cf Cr H' n o kv kl := by
  cases Z with
  | no => exact .no
  | yes Z => exact .yes ⟨k _ _ Z.obj (by simp), Z.rooms.keep fun b ob e m => k b ob e (List.mem_cons_of_mem _ m), Z.room, Z.flow, Z.full, Z.flow2, Z.full2, Z.hs, Z.ht⟩
theorem PipesAt.keepF {H H' : Hp} {q : Addr} {L : List Pipe} {ps : List Addr} (B : PipesAt H q L ps) (k : ∀ b o, H b = some o → b ∈ q :: ps → H' b = some o) : PipesAt H' q L ps :=
  ⟨k _ _ B.lst (by simp), B.len, fun i a x e1 e2 => k _ _ (B.tup i a x e1 e2) (List.mem_cons_of_mem _ (List.mem_of_getElem? e1))⟩
theorem NetAt.keep (Z : NetAt Cn Cf Cr H a B st kv) (k : ∀ b ob, H b = some ob → b ∈ fp a B → H' b = some ob) : NetAt Cn Cf Cr H' a B st kv :=
  ⟨k _ _ Z.obj (by simp [fp]), Z.kept.keep fun b ob e m => k b ob e (by simp [fp, m]), Z.pipes.keepF fun b ob e m => k b ob e (by
    rcases List.mem_cons.mp m with z | z
    · simp [fp, z]
    · simp [fp, z]), Z.right, Z.pl0, Z.pl, Z.len, Z.lim⟩
theorem NetAt.same (Z : NetAt Cn Cf Cr H a B st kv) (k : Same H H') : NetAt Cn Cf Cr H' a B st kv := Z.keep fun b ob e _ => k b ob e
end
/-! ### Net.__init__ -/
def spNetI (Cn : Addr) : Sp := fun vs H Q _ => ∃ (a dx : Addr), vs = [.ref a] ∧ H a = some (.ins Cn dx []) ∧ ∀ (H' : Hp) (lp : Addr), H' a = some (.ins Cn dx (nf 0 lp .non)) → Kp [a] H H' → Q .non H'
theorem scNetI : FnScope ["self"] ["self"] (defScope sNetI) := ⟨rfl, rfl, rfl, by decide +kernel, rfl, by decide +kernel, by decide +kernel⟩
/-! ### Net.begin -/
structure TM2 (mg : Str → Option Value) : Prop where
  few : ∃ t, mg "FEWEST_PLACES" = some (Value.int 2 t)
  places : ∃ t, mg "MOST_PLACES" = some (Value.int 256 t)
  pipes : ∃ t, mg "MOST_PIPES" = some (Value.int 4096 t)
  holds : ∃ t, mg "MOST_HOLDS" = some (Value.int 4611686018427387904 t)
  cost : ∃ t, mg "MOST_COST" = some (Value.int 1000000000 t)
  units : ∃ t, mg "MOST_UNITS" = some (Value.int 18446744073709551615 t)
def spBegin (Cn Cf Cr Co : Addr) : Sp := fun vs H Q E => ∃ (a dx lp0 : Addr) (n0 : Nat) (kv0 : V) (z : Int), vs = [.ref a, .int z] ∧ H a = some (.ins Cn dx (nf n0 lp0 kv0)) ∧
  (2 ≤ z → z ≤ 256 → ∀ (H' : Hp) (B : NB) (kv : V), NetAt Cn Cf Cr H' a B ⟨⟨z.toNat, []⟩, none⟩ kv → Kp [a] H H' → (∀ b, b ∈ fp a B → b = a ∨ H b = none) → Q .non H') ∧ (¬ (2 ≤ z ∧ z ≤ 256) → E (.ref Co) none H)
theorem scBegin : FnScope ["self", "places"] ["self", "places"] (defScope sBegin) := ⟨rfl, rfl, rfl, by decide +kernel, rfl, by decide +kernel, by decide +kernel⟩
/-! ### Net.lay -/
def layOk (n : Net) (x y hd co : Int) : Prop := 0 ≤ x ∧ x < n.places ∧ 0 ≤ y ∧ y < n.places ∧ 0 ≤ hd ∧ hd ≤ 4611686018427387904 ∧ 0 ≤ co ∧ co ≤ 1000000000
def spLay (Cn Cf Cr Co Cfu : Addr) : Sp := fun vs H Q E => ∃ (a : Addr) (B : NB) (st : Sw14.St) (kv : V) (x y hd co : Int), vs = [.ref a, .int x, .int y, .int hd, .int co] ∧ NetAt Cn Cf Cr H a B st kv ∧
  (layOk st.net x y hd co → st.net.pipes.length < 4096 → ∀ (H' : Hp) (B' : NB) (kv' : V), NetAt Cn Cf Cr H' a B' ⟨{ st.net with pipes := st.net.pipes ++ [⟨x.toNat, y.toNat, hd.toNat, co.toNat⟩] }, none⟩ kv' → Kp (fp a B) H H' → (∀ b, b ∈ fp a B' → b ∈ fp a B ∨ H b = none) → Q (.int st.net.pipes.length) H') ∧
  (¬ layOk st.net x y hd co → E (.ref Co) none H) ∧ (layOk st.net x y hd co → ¬ st.net.pipes.length < 4096 → E (.ref Cfu) none H)
theorem scLay : FnScope ["self", "a", "b", "holds", "cost"] ["self", "a", "b", "holds", "cost"] (defScope sLay) := ⟨rfl, rfl, rfl, by decide +kernel, rfl, by decide +kernel, by decide +kernel⟩
section
variable {P : Program} {w : World} {K : PySem.W.Frag} {mg : Str → Option Value} {base : Heap}
theorem ok_netI {f Cn : Addr} {fd : FuncData} (F : Fun K "__init__" "Net.__init__" sNetI f fd) (T : TNet K Cn) : FnOk P w K mg base CX0 1 f fd ["self"] (spNetI Cn) := by
  refine F.ok scNetI (fun vs H Q E h => ?_) (fun cdv A outer s H vs Q E hr h => ?_)
  · obtain ⟨a, dx, rfl, _⟩ := h
    rfl
  · obtain ⟨a, dx, rfl, ha, k⟩ := h
    refine ⟨_, pss_cons (ps_fld (pv 0) pe_int rfl) (pss_cons (ps_fld (pv 0) (pe_lst pa_nil) rfl) (pss_one (ps_fld (pv 0) pe_non rfl))), ?_⟩
    refine ⟨_, rfl, a, Cn, dx, _, rfl, ha, T.cl, T.nPlaces, (by decide), ?_⟩
    generalize e1 : upd H a _ = H1
    have k1 : Kp [a] H H1 := by rw [← e1]; exact (Kp.refl H).upd (by simp)
    have p1 : H1 a = some (.ins Cn dx (putF "places" (.int 0) [])) := by rw [← e1]; exact upd_same
    refine ⟨Nat.zero_le _, fun lp hlp => ⟨_, rfl, a, Cn, dx, _, rfl, (by rw [upd_ne (ne_of_none p1 hlp)]; exact p1), T.cl, T.nPipes, (by show 1 < 1000; decide), ?_⟩⟩
    generalize e2 : upd (upd H1 lp (.lst [])) a _ = H2
    have k2 : Kp [a] H H2 := by rw [← e2]; exact (k1.new hlp).upd (by simp)
    have p2 : H2 a = some (.ins Cn dx (putF "pipes" (.ref lp) (putF "places" (.int 0) []))) := by rw [← e2]; exact upd_same
    refine ⟨_, rfl, a, Cn, dx, _, rfl, p2, T.cl, T.nKept, (by show 2 < 1000; decide), ?_⟩
    exact k _ lp upd_same (k2.upd (by simp))
theorem ok_begin {f Cn Cf Cr Co : Addr} {fd : FuncData} (F : Fun K "begin" "Net.begin" sBegin f fd) (T : TNet K Cn) (TM : TM2 mg) (GR : GF P w K mg base (CXE P w) 1 "check_range" ["number", "lowest", "greatest"] (spRange Co)) :
    FnOk P w K mg base (CXE P w) 2 f fd ["self", "places"] (spBegin Cn Cf Cr Co) := by
  obtain ⟨fR, fdR, GR, bR, mR, kR⟩ := GR
  obtain ⟨t1, g1⟩ := TM.few
  obtain ⟨t2, g2⟩ := TM.places
  refine okE F scBegin (fun vs H Q E h => ?_) (fun cdv A outer s H vs Q E hr h => ?_)
  · obtain ⟨a, dx, lp0, n0, kv0, z, rfl, _⟩ := h
    rfl
  · obtain ⟨a, dx, lp0, n0, kv0, z, rfl, ha, k1, k2⟩ := h
    refine ⟨_, pss_cons (ps_expr (pe_call GR hr rfl mR kR bR .nil (passE (E' := E) fun _ _ _ z => z) (pa_cons (pv 1) (pa_cons (pe_glob (v := V.int 2) rfl g1 ⟨_, rfl⟩) (pa_cons (pe_glob (v := V.int 256) rfl g2 ⟨_, rfl⟩) pa_nil)))))
      (pss_cons (ps_fld (pv 0) (pv 1) rfl) (pss_cons (ps_fld (pv 0) (pe_lst pa_nil) rfl) (pss_one (ps_fld (pv 0) pe_non rfl)))), ?_⟩
    refine ⟨_, rfl, z, 2, 256, rfl, fun h1 h2 => ?_, fun h => k2 (by omega)⟩
    obtain ⟨n, rfl⟩ : ∃ n : Nat, z = (n : Int) := ⟨z.toNat, by omega⟩
    refine ⟨_, rfl, _, rfl, a, Cn, dx, _, rfl, ha, T.cl, T.nPlaces, (by show 3 < 1000; decide), ?_⟩
    generalize e1 : upd H a _ = H1
    have k1' : Kp [a] H H1 := by rw [← e1]; exact (Kp.refl H).upd (by simp)
    have p1 : H1 a = some (.ins Cn dx (nf n lp0 kv0)) := by rw [← e1]; exact upd_same
    refine ⟨Nat.zero_le _, fun lp hlp => ⟨_, rfl, a, Cn, dx, _, rfl, (by rw [upd_ne (ne_of_none p1 hlp)]; exact p1), T.cl, T.nPipes, (by show 3 < 1000; decide), ?_⟩⟩
    generalize e2 : upd (upd H1 lp (.lst [])) a _ = H2
    have k2' : Kp [a] H H2 := by rw [← e2]; exact (k1'.new hlp).upd (by simp)
    have p2 : H2 a = some (.ins Cn dx (nf n lp kv0)) := by rw [← e2]; exact upd_same
    have nal : lp ≠ a := Ne.symm (ne_of_none p1 hlp)
    have q2 : H2 lp = some (.lst []) := by rw [← e2, upd_ne nal]; exact upd_same
    obtain ⟨f1, _⟩ := k1'.two (by simp [p1]) hlp
    refine ⟨_, rfl, a, Cn, dx, _, rfl, p2, T.cl, T.nKept, (by show 3 < 1000; decide), ?_⟩
    refine k1 h1 h2 _ ⟨dx, lp, [], []⟩ .non ⟨upd_same, .no, ⟨by rw [upd_ne nal]; exact q2, rfl, fun i b x e => (by simp at e)⟩, fun x hx => (by cases hx), ?_, ?_, by simp, fun x hx => (by cases hx)⟩ (k2'.upd (by simp)) (fun b hb => ?_)
    · show 2 ≤ ((n : Int)).toNat; omega
    · show ((n : Int)).toNat ≤ 256; omega
    · simp [fp] at hb
      rcases hb with z | z
      · exact .inl z
      · exact .inr (z ▸ f1)
theorem ok_lay {f Cn Cf Cr Co Cfu : Addr} {fd : FuncData} (F : Fun K "lay" "Net.lay" sLay f fd) (T : TNet K Cn) (TM : TM2 mg) (TBb : TB mg) (TF : TX K mg "NetFull" Cfu) (GR : GF P w K mg base (CXE P w) 1 "check_range" ["number", "lowest", "greatest"] (spRange Co)) (GP : MF P w K mg base (CXE P w) 2 Cn "check_place" ["self", "place"] (spPlace Cn Co)) :
    FnOk P w K mg base (CXE P w) 3 f fd ["self", "a", "b", "holds", "cost"] (spLay Cn Cf Cr Co Cfu) := by
  obtain ⟨fR, fdR, GR, bR, mR, kR⟩ := GR
  obtain ⟨fP, fdP, GP, bP, mP⟩ := GP
  obtain ⟨t1, g1⟩ := TM.holds
  obtain ⟨t2, g2⟩ := TM.cost
  obtain ⟨t3, g3⟩ := TM.pipes
  obtain ⟨bm, nid, hx, Bb, iid, FB⟩ := TF.ex
  refine okE F scLay (fun vs H Q E h => ?_) (fun cdv A outer s H vs Q E hr h => ?_)
  · obtain ⟨a, B, st, kv, x, y, hd, co, rfl, _⟩ := h
    rfl
  · obtain ⟨a, B, st, kv, x, y, hd, co, rfl, Z, k1, k2, k3⟩ := h
    have hr1 : Room 1 _ := hr.mono (by decide)
    refine ⟨_, pss_cons (ps_expr (pe_meth (pv 0) T.cl mP GP hr bP .nil (passE (E' := E) fun _ _ _ z => z) (pa_cons (pv 1) pa_nil)))
      (pss_cons (ps_expr (pe_meth (pv 0) T.cl mP GP hr bP .nil (passE (E' := E) fun _ _ _ z => z) (pa_cons (pv 2) pa_nil)))
      (pss_cons (ps_expr (pe_call GR hr1 rfl mR kR bR .nil (passE (E' := E) fun _ _ _ z => z) (pa_cons (pv 3) (pa_cons pe_int (pa_cons (pe_glob (v := V.int 4611686018427387904) rfl g1 ⟨_, rfl⟩) pa_nil)))))
      (pss_cons (ps_expr (pe_call GR hr1 rfl mR kR bR .nil (passE (E' := E) fun _ _ _ z => z) (pa_cons (pv 4) (pa_cons pe_int (pa_cons (pe_glob (v := V.int 1000000000) rfl g2 ⟨_, rfl⟩) pa_nil)))))
      (pss_cons (ps_if (pt_cmpR op_ge (pe_callB call_len_seq (by rfl) TBb.len PySem.boot_len (pa_cons (pe_fld (pv 0) rfl) pa_nil)) (pe_glob (v := V.int 4096) rfl g3 ⟨_, rfl⟩) (nomark _)) (pss_one (ps_raise hr.hd rfl TF.mgx hx FB)) pss_nil)
      (pss_cons (ps_expr (pe_bm PySem.F.plainAttrs_list PySem.F.slot_list_append PySem.F.type_list_append mt_append (pe_fld (pv 0) rfl) (pa_cons (pe_tup (pa_cons (pv 1) (pa_cons (pv 2) (pa_cons (pv 3) (pa_cons (pv 4) pa_nil))))) pa_nil)))
      (pss_cons (ps_fld (pv 0) pe_non rfl)
      (pss_one (ps_ret (pe_op op_sub (pe_callB call_len_seq (by rfl) TBb.len PySem.boot_len (pa_cons (pe_fld (pv 0) rfl) pa_nil)) pe_int))))))))), ?_⟩
    refine ⟨_, rfl, a, B.dx, _, rfl, Z.obj, by rfl, _, rfl, a, B.dx, B.lp, st.net.places, kv, x, rfl, Z.obj, fun h1 h2 => ?_, fun h => k2 fun o => h ⟨o.1, o.2.1⟩⟩
    refine ⟨_, rfl, a, B.dx, _, rfl, Z.obj, by rfl, _, rfl, a, B.dx, B.lp, st.net.places, kv, y, rfl, Z.obj, fun h3 h4 => ?_, fun h => k2 fun o => h ⟨o.2.2.1, o.2.2.2.1⟩⟩
    refine ⟨_, rfl, hd, 0, 4611686018427387904, rfl, fun h5 h6 => ?_, fun h => k2 fun o => by have := o.2.2.2.2.1; have := o.2.2.2.2.2.1; omega⟩
    refine ⟨_, rfl, co, 0, 1000000000, rfl, fun h7 h8 => ?_, fun h => k2 fun o => by have := o.2.2.2.2.2.2.1; have := o.2.2.2.2.2.2.2; omega⟩
    have lo : layOk st.net x y hd co := ⟨h1, h2, h3, h4, h5, h6, h7, h8⟩
    have PA := Z.pipes
    refine ⟨_, rfl, a, Cn, B.dx, _, _, rfl, Z.obj, T.cl, T.nPipes, nf_pipes, B.lp, _, rfl, .inl (SqL.of PA.lst), _, _, rfl, rfl, _, rfl, ?_⟩
    rw [List.length_map, PA.len]
    refine ite2 (fun c => ?_) (fun c => ?_)
    · have c := of_decide_eq_true c
      exact k3 lo (by omega)
    · have c : ¬ ((4096 : Int) ≤ ((st.net.pipes.length : Nat) : Int)) := fun z => c (decide_eq_true z)
      have hlt : st.net.pipes.length < 4096 := by omega
      refine ⟨_, rfl, a, Cn, B.dx, _, _, rfl, Z.obj, T.cl, T.nPipes, nf_pipes, tyL PA.lst, _, rfl, _, rfl, _, rfl, _, rfl, (by show 4 ≤ sizeLine; decide), fun tp htp => ?_⟩
      generalize e1 : upd H tp _ = H1
      have s1 : Same H H1 := fun b o e => by rw [← e1, upd_ne (ne_of_none e htp)]; exact e
      have t1' : H1 tp = some (.tup [.int x, .int y, .int hd, .int co]) := by rw [← e1]; exact upd_same
      have Z1 := Z.same s1
      refine ⟨B.lp, _, _, rfl, rfl, Z1.pipes.lst, by rw [List.length_map, PA.len, sizeLine_eq]; omega, ?_⟩
      have em : B.ps.map V.ref ++ [V.ref tp] = (B.ps ++ [tp]).map V.ref := by simp
      rw [em]
      generalize e2 : upd H1 B.lp _ = H2
      have nal : a ≠ B.lp := ne_of Z1.obj Z1.pipes.lst (by intro z; cases z)
      have u2 : ∀ b, b ≠ B.lp → H2 b = H1 b := fun b hb => by rw [← e2, upd_ne hb]
      have p2 : H2 a = some (.ins Cn B.dx (nf st.net.places B.lp kv)) := by rw [u2 a nal]; exact Z1.obj
      refine ⟨_, rfl, a, Cn, B.dx, _, rfl, p2, T.cl, T.nKept, (by show 3 < 1000; decide), ?_⟩
      generalize e3 : upd H2 a _ = H3
      have u3 : ∀ b, b ≠ a → H3 b = H2 b := fun b hb => by rw [← e3, upd_ne hb]
      have p3 : H3 a = some (.ins Cn B.dx (nf st.net.places B.lp .non)) := by rw [← e3]; exact upd_same
      have l3 : H3 B.lp = some (.lst ((B.ps ++ [tp]).map V.ref)) := by rw [u3 _ (Ne.symm nal), ← e2]; exact upd_same
      refine ⟨_, rfl, a, Cn, B.dx, _, _, rfl, p3, T.cl, T.nPipes, nf_pipes, B.lp, _, rfl, .inl (SqL.of l3), _, _, rfl, rfl, ?_⟩
      have el : ((((B.ps ++ [tp]).map V.ref).length : Nat) : Int) - 1 = (st.net.pipes.length : Int) := by rw [List.length_map, List.length_append, PA.len]; simp
      dsimp only
      rw [el]
      have nt : ∀ {b : Addr} {xs : List V}, H1 b = some (.tup xs) → H3 b = some (.tup xs) := fun {b xs} e => by
        rw [u3 b (ne_of e Z1.obj (by intro z; cases z)), u2 b (ne_of e Z1.pipes.lst (by intro z; cases z))]; exact e
      refine k1 lo hlt H3 ⟨B.dx, B.lp, B.ps ++ [tp], []⟩ .non ⟨p3, .no, ⟨l3, by simp [PA.len], fun i b xx e1 e2 => ?_⟩, fun xx hx => ?_, Z.pl0, Z.pl, by simp; omega, fun xx hx => ?_⟩ (fun b o e nb => ?_) (fun b hb => ?_)
      · by_cases hi : i < B.ps.length
        · rw [List.getElem?_append_left hi] at e1
          rw [List.getElem?_append_left (by rw [← PA.len]; exact hi)] at e2
          exact nt (Z1.pipes.tup i b xx e1 e2)
        · have hi2 : i = B.ps.length := by
            have := (List.getElem?_eq_some_iff.mp e1).1
            simp at this; omega
          subst hi2
          rw [List.getElem?_append_right (Nat.le_refl _)] at e1
          rw [List.getElem?_append_right (by rw [← PA.len]; exact Nat.le_refl _), PA.len] at e2
          simp at e1 e2
          subst e1 e2
          rw [nt t1']
          unfold pT
          simp only [Int.toNat_of_nonneg h1, Int.toNat_of_nonneg h3, Int.toNat_of_nonneg h5, Int.toNat_of_nonneg h7]
      · rcases List.mem_append.mp hx with z | z
        · exact Z.right xx z
        · simp at z; subst z
          show x.toNat < st.net.places ∧ y.toNat < st.net.places
          omega
      · rcases List.mem_append.mp hx with z | z
        · exact Z.lim xx z
        · simp at z; subst z
          show hd.toNat ≤ 2 ^ 62 ∧ co.toNat ≤ 1000000000
          omega
      · rw [u3 b (fun z => nb (by simp [fp, z])), u2 b (fun z => nb (by simp [fp, z]))]; exact s1 b o e
      · simp [fp] at hb
        rcases hb with z | z | z | z
        · exact .inl (by simp [fp, z])
        · exact .inl (by simp [fp, z])
        · exact .inl (by simp [fp, z])
        · exact .inr (z ▸ htp)
end
end Px
set_option Elab.async false
set_option linter.all false
set_option maxRecDepth 100000
set_option maxHeartbeats 2000000
namespace Px
open PySem PySem.Spec PyProof.Rows L2
open Sw14 (Pipe Net Right)
/-! ### Flow.__init__ -/
def spFloI (Cf : Addr) : Sp := fun vs H Q _ => ∃ (q dq p : Addr) (s t : Nat) (b : Bool), vs = [.ref q, .ref p, .int s, .int t, .bl b] ∧ H q = some (.ins Cf dq []) ∧ ∀ (H' : Hp), H' q = some (.ins Cf dq (ff p s t b)) → Kp [q] H H' → Q .non H'
theorem scFloI : FnScope ["self", "rooms", "start", "goal", "is_fullest"] ["self", "rooms", "start", "goal", "is_fullest"] (defScope sFloI) := ⟨rfl, rfl, rfl, by decide +kernel, rfl, by decide +kernel, by decide +kernel⟩
/-! ### Net.send -/
def twoOk (n : Net) (y z : Int) : Prop := 0 ≤ y ∧ y < n.places ∧ 0 ≤ z ∧ z < n.places ∧ y ≠ z
def spSend (Cn Cf Cr Co : Addr) : Sp := fun vs H Q E => ∃ (a : Addr) (B : NB) (st : Sw14.St) (kv : V) (y z : Int) (mo : Nat), vs = [.ref a, .int y, .int z, .int mo] ∧ NetAt Cn Cf Cr H a B st kv ∧ (mo : Int) ≤ 18446744073709551615 ∧
  (twoOk st.net y z → ∀ (H' : Hp) (B' : NB) (kv' : V) (tp : Addr), NetAt Cn Cf Cr H' a B' { st with kept := some ⟨y.toNat, z.toNat, mo, (Sw14.sentOf st.net y.toNat z.toNat mo).1, (Sw14.sentOf st.net y.toNat z.toNat mo).2⟩ } kv' → Kp (fp a B) H H' → (∀ b, b ∈ fp a B' → b ∈ fp a B ∨ H b = none) →
    H' tp = some (.tup [.int (Sw14.sentOf st.net y.toNat z.toNat mo).2, .int (Sw14.costOf st.net (Sw14.sentOf st.net y.toNat z.toNat mo).1)]) → Q (.ref tp) H') ∧ (¬ twoOk st.net y z → E (.ref Co) none H)
theorem scSend : FnScope ["self", "start", "goal", "most", "brought", "rooms"] ["self", "start", "goal", "most"] (defScope sSend) := ⟨rfl, rfl, rfl, by decide +kernel, rfl, by decide +kernel, by decide +kernel⟩
section
variable {P : Program} {w : World} {K : PySem.W.Frag} {mg : Str → Option Value} {base : Heap}
theorem ok_floI {f Cf : Addr} {fd : FuncData} (F : Fun K "__init__" "Flow.__init__" sFloI f fd) (T : TFlo K Cf) : FnOk P w K mg base CX0 1 f fd ["self", "rooms", "start", "goal", "is_fullest"] (spFloI Cf) := by
  refine F.ok scFloI (fun vs H Q E h => ?_) (fun cdv A outer s H vs Q E hr h => ?_)
  · obtain ⟨q, dq, p, s, t, b, rfl, _⟩ := h
    rfl
  · obtain ⟨q, dq, p, s, t, b, rfl, hq, k⟩ := h
    refine ⟨_, pss_cons (ps_fld (pv 0) (pv 1) rfl) (pss_cons (ps_fld (pv 0) (pv 2) rfl) (pss_cons (ps_fld (pv 0) (pv 3) rfl) (pss_one (ps_fld (pv 0) (pv 4) rfl)))), ?_⟩
    refine ⟨_, rfl, _, rfl, q, Cf, dq, _, rfl, hq, T.cl, T.nRooms, (by decide), ?_⟩
    refine ⟨_, rfl, _, rfl, q, Cf, dq, _, rfl, upd_same, T.cl, T.nStart, (by show 1 < 1000; decide), ?_⟩
    refine ⟨_, rfl, _, rfl, q, Cf, dq, _, rfl, upd_same, T.cl, T.nGoal, (by show 2 < 1000; decide), ?_⟩
    refine ⟨_, rfl, _, rfl, q, Cf, dq, _, rfl, upd_same, T.cl, T.nFull, (by show 3 < 1000; decide), ?_⟩
    exact k _ upd_same (((((Kp.refl H).upd (by simp)).upd (by simp)).upd (by simp)).upd (by simp))
theorem cheap_of {Cn Cf Cr : Addr} {H : Hp} {a : Addr} {B : NB} {st : Sw14.St} {kv : V} (Z : NetAt Cn Cf Cr H a B st kv) : Cheap (Pn.fn st.net) := fun i hi => by
  have hi : i < st.net.pipes.length := hi
  have := (Z.lim st.net.pipes[i] (List.getElem_mem hi)).2
  have e : Pn.pp st.net i = st.net.pipes[i] := Pn.pp_of (List.getElem?_eq_getElem hi)
  show 0 ≤ ((Pn.pp st.net i).cost : Int) ∧ ((Pn.pp st.net i).cost : Int) ≤ 1000000000
  rw [e]
  omega
theorem ok_send {f Cn Cf Cr Co : Addr} {fd : FuncData} (F : Fun K "send" "Net.send" sSend f fd) (T : TNet K Cn) (TR : TRoo K Cr) (TM : TM2 mg) (GR : GF P w K mg base (CXE P w) 1 "check_range" ["number", "lowest", "greatest"] (spRange Co)) (GE : MF P w K mg base (CXE P w) 3 Cn "check_ends" ["self", "start", "goal"] (spEnds Cn Co))
    (GI : IF P w K mg base CX0 2 "Rooms" Cr ["self", "places", "pipes"] (spRooI Cr)) (GL : GF P w K mg base CX0 3 "fill" ["rooms", "start", "goal", "most"] (spFill Cr)) (GC : GF P w K mg base CX0 5 "carry_cheapest" ["rooms", "start", "goal", "units"] (spCarry Cr))
    (GF' : IF P w K mg base CX0 1 "Flow" Cf ["self", "rooms", "start", "goal", "is_fullest"] (spFloI Cf)) (GT : MF P w K mg base CX0 1 Cr "cost" ["self"] (spCost Cr)) :
    FnOk P w K mg base (CXE P w) 6 f fd ["self", "start", "goal", "most"] (spSend Cn Cf Cr Co) := by
  obtain ⟨fR, fdR, GR, bR, mR, kR⟩ := GR
  obtain ⟨fE, fdE, GE, bE, mE⟩ := GE
  obtain ⟨fI, fdI, GI, bI, mI, gI⟩ := GI
  obtain ⟨fL, fdL, GL, bL, mL, kL⟩ := GL
  obtain ⟨fC, fdC, GC, bC, mC, kC⟩ := GC
  obtain ⟨fF, fdF, GF', bF, mF, gF⟩ := GF'
  obtain ⟨fT, fdT, GT, bT, mT⟩ := GT
  obtain ⟨t1, g1⟩ := TM.units
  refine okE F scSend (fun vs H Q E h => ?_) (fun cdv A outer s H vs Q E hr h => ?_)
  · obtain ⟨a, B, st, kv, y, z, mo, rfl, _⟩ := h
    rfl
  · obtain ⟨a, B, st, kv, y, z, mo, rfl, Z, hmo, k1, k2⟩ := h
    have nd := scSend.nd
    have hr1 : Room 1 _ := hr.mono (by decide)
    have hr2 : Room 2 _ := hr.mono (by decide)
    have hr3 : Room 3 _ := hr.mono (by decide)
    refine ⟨_, pss_cons (ps_expr (pe_meth (pv 0) T.cl mE GE hr3 bE .nil (passE (E' := E) fun _ _ _ z => z) (pa_cons (pv 1) (pa_cons (pv 2) pa_nil))))
      (pss_cons (ps_expr (pe_call GR hr1 rfl mR kR bR .nil (passE (E' := E) fun _ _ _ z => z) (pa_cons (pv 3) (pa_cons pe_int (pa_cons (pe_glob (v := V.int 18446744073709551615) rfl g1 ⟨_, rfl⟩) pa_nil)))))
      (pss_cons (ps_set (i := 4) nd rfl (Or.inl rfl) (pe_call GL hr3 rfl mL kL bL .nil pass0 (pa_cons (pe_make mI GI hr3 rfl gI bI .nil pass0 (pa_cons (pe_fld (pv 0) rfl) (pa_cons (pe_fld (pv 0) rfl) pa_nil))) (pa_cons (pv 1) (pa_cons (pv 2) (pa_cons (pv 3) pa_nil))))))
      (pss_cons (ps_set (i := 5) nd rfl (Or.inl rfl) (pe_make mI GI hr3 rfl gI bI .nil pass0 (pa_cons (pe_fld (pv 0) rfl) (pa_cons (pe_fld (pv 0) rfl) pa_nil))))
      (pss_cons (ps_expr (pe_call GC hr rfl mC kC bC .nil pass0 (pa_cons (pv 5) (pa_cons (pv 1) (pa_cons (pv 2) (pa_cons (pv 4) pa_nil))))))
      (pss_cons (ps_fld (pv 0) (pe_make mF GF' hr2 rfl gF bF .nil pass0 (pa_cons (pv 5) (pa_cons (pv 1) (pa_cons (pv 2) (pa_cons (pe_cmpR op_lt (pv 4) (pv 3) (nomark _)) pa_nil))))) rfl)
      (pss_one (ps_ret (pe_tup (pa_cons (pv 4) (pa_cons (pe_meth0 (pv 5) TR.cl mT GT hr1 bT .nil pass0) pa_nil))))))))))  , ?_⟩
    refine ⟨_, rfl, a, B.dx, _, rfl, Z.obj, by rfl, _, rfl, _, rfl, a, B.dx, B.lp, st.net.places, kv, y, z, rfl, Z.obj, fun h1 h2 h3 h4 h5 => ?_, fun h => k2 h⟩
    have two : twoOk st.net y z := ⟨h1, h2, h3, h4, h5⟩
    obtain ⟨s, rfl⟩ : ∃ s : Nat, y = (s : Int) := ⟨y.toNat, by omega⟩
    obtain ⟨t, rfl⟩ : ∃ t : Nat, z = (t : Int) := ⟨z.toNat, by omega⟩
    have k1 := k1 two
    rw [Int.toNat_natCast, Int.toNat_natCast] at k1
    have hs : s < st.net.places := by omega
    have ht : t < st.net.places := by omega
    have hst : s ≠ t := fun e => h5 (by rw [e])
    have gd := Pn.good_of Z.right
    refine ⟨_, rfl, mo, 0, 18446744073709551615, rfl, fun _ _ => ?_, fun h => (by omega)⟩
    -- brought = fill(Rooms(..), ..)
    refine ⟨_, rfl, a, Cn, B.dx, _, _, rfl, Z.obj, T.cl, T.nPlaces, nf_places, _, rfl, a, Cn, B.dx, _, _, rfl, Z.obj, T.cl, T.nPipes, nf_pipes, fun p1 d1 n1 m1 e1 => ?_⟩
    generalize eH1 : upd (upd H d1 (.own p1)) p1 (.ins Cr d1 []) = H1
    have s1 : Same H H1 := fun b o e => by rw [← eH1, upd_ne (ne_of_none e n1), upd_ne (ne_of_none e m1)]; exact e
    have q1 : H1 p1 = some (.ins Cr d1 []) := by rw [← eH1]; exact upd_same
    have Z1 := Z.same s1
    refine ⟨p1, d1, B.lp, st.net, B.ps, rfl, q1, Z1.pipes, Z.right, Z.pl, Z.len, fun H2 A1 R2 kp2 fr2 => ⟨rfl, ?_⟩⟩
    have s2 : Same H H2 := fun b o e => kp2 b o (s1 b o e) (fun z => by simp at z; rw [z, n1] at e; cases e)
    refine ⟨_, rfl, _, rfl, _, rfl, p1, Pn.fn st.net, A1, s, t, mo, rfl, R2, gd, Z.pl, Z.len, hs, ht, hst, by omega, fun H3 r3 b FL FU kp3 => ?_⟩
    have fA1 : H A1.lr = none := s1.free (fr2 A1.lr (by simp [RA.all]))
    have s3 : Same H H3 := fun b o e => kp3 b o (s2 b o e) (fun z => by simp at z; rw [z, fA1] at e; cases e)
    have Z3 := Z.same s3
    have ev := Pn.send_val Z.right hs ht hst FL.flow FU
    -- rooms = Rooms(..)
    refine ⟨_, rfl, a, Cn, B.dx, _, _, rfl, Z3.obj, T.cl, T.nPlaces, nf_places, _, rfl, a, Cn, B.dx, _, _, rfl, Z3.obj, T.cl, T.nPipes, nf_pipes, fun p2 d2 n2 m2 e2 => ?_⟩
    generalize eH4 : upd (upd H3 d2 (.own p2)) p2 (.ins Cr d2 []) = H4
    have s4 : Same H3 H4 := fun b o e => by rw [← eH4, upd_ne (ne_of_none e n2), upd_ne (ne_of_none e m2)]; exact e
    have q4 : H4 p2 = some (.ins Cr d2 []) := by rw [← eH4]; exact upd_same
    refine ⟨p2, d2, B.lp, st.net, B.ps, rfl, q4, (Z3.same s4).pipes, Z.right, Z.pl, Z.len, fun H5 A2 R5 kp5 fr5 => ⟨rfl, ?_⟩⟩
    have f2 : H p2 = none := s3.free n2
    have fA2 : ∀ b, b ∈ A2.all → H b = none := fun b hb => (s3.trans s4).free (fr5 b hb)
    have s5 : Same H H5 := fun b o e => kp5 b o (s4 b o (s3 b o e)) (fun z => by simp at z; rw [z, f2] at e; cases e)
    -- carry_cheapest(..)
    refine ⟨_, rfl, _, rfl, _, rfl, _, rfl, p2, Pn.fn st.net, A2, s, t, b, Pn.Fl r3, rfl, R5, gd, Z.pl, Z.len, hs, ht, FL.b0, FL.flow, fun H6 r6 pi R6 ok6 fl6 po6 kp6 => ?_⟩
    have s6 : Same H H6 := fun b o e => kp6 b o (s5 b o e) (fun z => by simp at z; rw [z, fA2 A2.lr (by simp [RA.all])] at e; cases e)
    have Z6 := Z.same s6
    -- self.kept = Flow(..)
    refine ⟨_, rfl, _, rfl, _, rfl, _, rfl, _, rfl, _, _, rfl, rfl, fun q dq nq ndq neq => ?_⟩
    generalize eH7 : upd (upd H6 dq (.own q)) q (.ins Cf dq []) = H7
    have s7 : Same H6 H7 := fun b o e => by rw [← eH7, upd_ne (ne_of_none e nq), upd_ne (ne_of_none e ndq)]; exact e
    have q7 : H7 q = some (.ins Cf dq []) := by rw [← eH7]; exact upd_same
    refine ⟨q, dq, p2, s, t, _, rfl, q7, fun H8 q8 kp8 => ⟨rfl, ?_⟩⟩
    have fq : H q = none := s6.free nq
    have s8' : ∀ b o, H6 b = some o → H8 b = some o := fun b o e => kp8 b o (s7 b o e) (fun z => by simp at z; rw [z, nq] at e; cases e)
    have s8 : Same H H8 := fun b o e => s8' b o (s6 b o e)
    have Z8 := Z.same s8
    refine ⟨_, rfl, a, Cn, B.dx, _, rfl, Z8.obj, T.cl, T.nKept, (by show 3 < 1000; decide), ?_⟩
    generalize eH9 : upd H8 a _ = H9
    have u9 : ∀ x, x ≠ a → H9 x = H8 x := fun x hx => by rw [← eH9, upd_ne hx]
    have a9 : H9 a = some (.ins Cn B.dx (nf st.net.places B.lp (.ref q))) := by rw [← eH9]; exact upd_same
    have ha : H a ≠ none := by rw [Z.obj]; simp
    have na : ∀ {x : Addr}, H x = none → x ≠ a := fun hx z => ha (z ▸ hx)
    have R8 : RoomsAt Cr H8 p2 (Pn.fn st.net) A2 r6 := Raw.same R6 s8'
    have R9 : RoomsAt Cr H9 p2 (Pn.fn st.net) A2 r6 := R8.keep fun b o e m => by
      rw [u9 b (by
        rcases List.mem_cons.mp m with z | z
        · rw [z]; exact na f2
        · exact na (fA2 b z))]; exact e
    -- return brought, rooms.cost()
    refine ⟨_, rfl, _, rfl, p2, A2.dx, _, rfl, R9.obj, by rfl, p2, Pn.fn st.net, A2, r6, rfl, R9, ok6.len, Z.len, cheap_of Z, fun H10 s10 => ?_⟩
    refine ⟨(by show 2 ≤ sizeLine; decide), fun tp htp => ?_⟩
    generalize eH11 : upd H10 tp _ = H11
    have s11 : Same H9 H11 := fun b o e => by
      have := s10 b o e
      rw [← eH11, upd_ne (ne_of_none this htp)]; exact this
    have t11 : H11 tp = some (.tup [.int b, .int (Pn.cost (Pn.fn st.net) (Pn.Fl r6))]) := by rw [← eH11]; exact upd_same
    rw [← ev] at fl6 FU t11
    have ec := Pn.send_cost (most := mo) Z.right hs hst fl6 po6
    rw [← ec] at t11
    obtain ⟨SD, SU⟩ := Pn.sentOf_ok Z.right hs hst mo
    have eb : decide (b < (mo : Int)) = decide ((Sw14.sentOf st.net s t mo).2 < mo) := by
      rw [← ev]; exact decide_eq_decide.mpr (by omega)
    refine k1 H11 ⟨B.dx, B.lp, B.ps, q :: p2 :: A2.all⟩ (.ref q) tp ⟨s11 _ _ a9, .yes ⟨s11 _ _ (by rw [u9 q (na fq), q8, eb]), Raw.same R9 s11, ok6, fl6, ?_, SD.flow, SU, hs, ht⟩, ?_, Z.right, Z.pl0, Z.pl, Z.len, Z.lim⟩ (fun b o e nb => ?_) (fun b hb => ?_) t11
    · have FU' : Pn.Full (Pn.fn st.net) s t (Pn.Fl r3) ((Sw14.sentOf st.net s t mo).2 : Int) mo := FU
      have FF : Pn.IsFlow (Pn.fn st.net) s t (Pn.Fl r3) ((Sw14.sentOf st.net s t mo).2 : Int) := by rw [ev]; exact FL.flow
      exact Pn.full_move gd hs ht FF fl6 FU'
    · refine Z8.pipes.keepF fun b o e m => s11 _ _ ?_
      rw [u9 b ?_]
      · exact e
      · rcases List.mem_cons.mp m with z | z
        · rw [z]; exact ne_of Z.pipes.lst Z.obj (by intro z; cases z)
        · obtain ⟨i, hi, ei⟩ := List.getElem_of_mem z
          have hi2 : i < st.net.pipes.length := by rw [← Z.pipes.len]; exact hi
          exact ne_of (Z.pipes.tup i b _ (by rw [List.getElem?_eq_getElem hi, ei]) (List.getElem?_eq_getElem hi2)) Z.obj (by intro z; cases z)
    · refine s11 _ _ ?_
      rw [u9 b (fun z => nb (by simp [fp, z]))]; exact s8 b o e
    · simp only [fp, List.mem_cons, List.mem_append] at hb ⊢
      rcases hb with z | z | z | z | z | z
      · exact .inl (.inl z)
      · exact .inl (.inr (.inl z))
      · exact .inl (.inr (.inr (.inl z)))
      · exact .inr (z ▸ fq)
      · exact .inr (z ▸ f2)
      · exact .inr (fA2 b z)
end
end Px
set_option Elab.async false
set_option linter.all false
set_option maxRecDepth 100000
set_option maxHeartbeats 2000000
namespace Px
open PySem PySem.Spec PyProof.Rows L2
open Sw14 (Pipe Net Right)
/-! ### Flow's walls -/
def spSmall (Cf Cr : Addr) : Sp := fun vs H Q _ => ∃ (q dq p : Addr) (s t : Nat) (b : Bool) (N : Pn.FN) (A : RA) (r : List Int), vs = [.ref q] ∧ H q = some (.ins Cf dq (ff p s t b)) ∧ RoomsAt Cr H p N A r ∧ r.length = 2 * N.m ∧ N.Good ∧ N.n ≤ 256 ∧ s < N.n ∧
  ∀ (H' : Hp) (l : Addr) (f : List Int), Pn.Steps N r 0 s f → H' l = some (.lst (nI (f.map fun z => if 0 ≤ z then 1 else 0))) → H l = none → Same H H' → Q (.ref l) H'
def spGreat (Cf Cr : Addr) : Sp := fun vs H Q _ => ∃ (q dq p : Addr) (s t : Nat) (b : Bool) (N : Pn.FN) (A : RA) (r : List Int), vs = [.ref q] ∧ H q = some (.ins Cf dq (ff p s t b)) ∧ RoomsAt Cr H p N A r ∧ r.length = 2 * N.m ∧ N.Good ∧ N.n ≤ 256 ∧ t < N.n ∧
  ∀ (H' : Hp) (l : Addr) (f : List Int), Pn.Steps N r 1 t f → H' l = some (.lst (nI (f.map fun z => if z < 0 then 1 else 0))) → H l = none → Same H H' → Q (.ref l) H'
theorem scSmall : FnScope ["self", "steps"] ["self"] (defScope sSmall) := ⟨rfl, rfl, rfl, by decide +kernel, rfl, by decide +kernel, by decide +kernel⟩
theorem scGreat : FnScope ["self", "steps"] ["self"] (defScope sGreat) := ⟨rfl, rfl, rfl, by decide +kernel, rfl, by decide +kernel, by decide +kernel⟩
section
variable {P : Program} {w : World} {K : PySem.W.Frag} {mg : Str → Option Value} {base : Heap}
theorem nI_at' {l : List Int} {i : Nat} {x : V} (h : (nI l)[i]? = some x) : ∃ j, l[i]? = some j ∧ x = V.int j := by
  rw [List.getElem?_map] at h
  cases e : l[i]? with
  | none => rw [e] at h; cases h
  | some z => rw [e] at h; exact ⟨z, rfl, (Option.some.inj h).symm⟩
theorem ok_small {f Cf Cr : Addr} {fd : FuncData} (F : Fun K "smallest_wall" "Flow.smallest_wall" sSmall f fd) (T : TFlo K Cf) (TR : TRoo K Cr) (GS : MF P w K mg base CX0 1 Cr "steps" ["self", "start", "other"] (spSteps Cr)) :
    FnOk P w K mg base CX0 2 f fd ["self"] (spSmall Cf Cr) := by
  obtain ⟨fS, fdS, GS, bS, mS⟩ := GS
  refine F.ok scSmall (fun vs H Q E h => ?_) (fun cdv A outer s H vs Q E hr h => ?_)
  · obtain ⟨q, dq, p, s, t, b, N, A, r, rfl, _⟩ := h
    rfl
  · obtain ⟨q, dq, p, s, t, b, N, A, r, rfl, hq, R, hrl, gd, hn, hs, k⟩ := h
    have nd := scSmall.nd
    refine ⟨_, pss_one (ps_ret (pe_lc (own := [("steps", 1)]) rfl nd (pi_list (pe_meth (pe_fld (pv 0) rfl) TR.cl mS GS hr bS .nil pass0 (pa_cons (pe_fld (pv 0) rfl) (pa_cons pe_int pa_nil)))) (blkOk_by (by rfl)) (fun _ _ _ _ _ => pg_name (i := 1) nd rfl (Or.inl rfl)) (fun _ _ _ _ _ => pts_nil) (fun _ _ _ _ _ => pe_ifExp (pt_cmpR op_ge (pv 1) pe_int (nomark _)) pe_int pe_int))), ?_⟩
    refine ⟨_, rfl, q, Cf, dq, _, _, rfl, hq, T.cl, T.nRooms, ff_rooms, p, A.dx, _, rfl, R.obj, by rfl, _, rfl, q, Cf, dq, _, _, rfl, hq, T.cl, T.nStart, ff_start, p, N, A, r, s, 0, rfl, R, hrl, gd, hn, hs, .inl rfl, fun H2 l fo S hl hl0 s2 => ⟨l, rfl, ⟨_, SqL.of hl⟩, fun D hD => ?_⟩⟩
    refine lc_list (K := K) (a := l) (xs := nI fo) (fun i H3 => H3 D = some (.lst (nI ((fo.take i).map fun z => if 0 ≤ z then 1 else 0))) ∧ Same H2 H3) ⟨upd_same, fun b o e => by rw [upd_ne (ne_of_none e hD)]; exact e⟩ (fun i H3 _ z => SqL.of (z.2 _ _ hl)) ?_ ?_
    · rintro i x H3 hx ⟨y1, y2⟩
      obtain ⟨z, hz, rfl⟩ := nI_at' hx
      have hil : i < fo.length := (List.getElem?_eq_some_iff.mp hz).1
      have hfl := S.len
      have fin : ∀ u : Int, u = (if 0 ≤ z then 1 else 0) → ∃ acc, H3 D = some (.lst acc) ∧ acc.length < sizeLine ∧ (upd H3 D (.lst (acc ++ [V.int u])) D = some (.lst (nI ((fo.take (i + 1)).map fun z => if 0 ≤ z then 1 else 0))) ∧ Same H2 (upd H3 D (.lst (acc ++ [V.int u])))) := fun u hu => by
        refine ⟨_, y1, by simp [nI, sizeLine_eq]; omega, ?_, fun b o e => by rw [upd_ne (ne_of_none e hD)]; exact y2 b o e⟩
        rw [upd_same, nI_snoc, List.take_add_one, hz, List.map_append, hu]; rfl
      refine ⟨rfl, tY ?_⟩
      refine ⟨_, rfl, _, _, rfl, rfl, _, rfl, ite2 (fun c => ?_) (fun c => ?_)⟩
      · exact fin 1 (by rw [if_pos (of_decide_eq_true c)])
      · exact fin 0 (by rw [if_neg (fun z => c (decide_eq_true z))])
    · rintro H3 ⟨y1, y2⟩
      rw [show (nI fo).length = fo.length by simp [nI], List.take_length] at y1
      exact k H3 D fo S y1 (s2.free hD) (s2.trans y2)
theorem ok_great {f Cf Cr : Addr} {fd : FuncData} (F : Fun K "greatest_wall" "Flow.greatest_wall" sGreat f fd) (T : TFlo K Cf) (TR : TRoo K Cr) (GS : MF P w K mg base CX0 1 Cr "steps" ["self", "start", "other"] (spSteps Cr)) :
    FnOk P w K mg base CX0 2 f fd ["self"] (spGreat Cf Cr) := by
  obtain ⟨fS, fdS, GS, bS, mS⟩ := GS
  refine F.ok scGreat (fun vs H Q E h => ?_) (fun cdv A outer s H vs Q E hr h => ?_)
  · obtain ⟨q, dq, p, s, t, b, N, A, r, rfl, _⟩ := h
    rfl
  · obtain ⟨q, dq, p, s, t, b, N, A, r, rfl, hq, R, hrl, gd, hn, hs, k⟩ := h
    have nd := scGreat.nd
    refine ⟨_, pss_one (ps_ret (pe_lc (own := [("steps", 1)]) rfl nd (pi_list (pe_meth (pe_fld (pv 0) rfl) TR.cl mS GS hr bS .nil pass0 (pa_cons (pe_fld (pv 0) rfl) (pa_cons pe_int pa_nil)))) (blkOk_by (by rfl)) (fun _ _ _ _ _ => pg_name (i := 1) nd rfl (Or.inl rfl)) (fun _ _ _ _ _ => pts_nil) (fun _ _ _ _ _ => pe_ifExp (pt_cmpR op_lt (pv 1) pe_int (nomark _)) pe_int pe_int))), ?_⟩
    refine ⟨_, rfl, q, Cf, dq, _, _, rfl, hq, T.cl, T.nRooms, ff_rooms, p, A.dx, _, rfl, R.obj, by rfl, _, rfl, q, Cf, dq, _, _, rfl, hq, T.cl, T.nGoal, ff_goal, p, N, A, r, t, 1, rfl, R, hrl, gd, hn, hs, .inr rfl, fun H2 l fo S hl hl0 s2 => ⟨l, rfl, ⟨_, SqL.of hl⟩, fun D hD => ?_⟩⟩
    refine lc_list (K := K) (a := l) (xs := nI fo) (fun i H3 => H3 D = some (.lst (nI ((fo.take i).map fun z => if z < 0 then 1 else 0))) ∧ Same H2 H3) ⟨upd_same, fun b o e => by rw [upd_ne (ne_of_none e hD)]; exact e⟩ (fun i H3 _ z => SqL.of (z.2 _ _ hl)) ?_ ?_
    · rintro i x H3 hx ⟨y1, y2⟩
      obtain ⟨z, hz, rfl⟩ := nI_at' hx
      have hil : i < fo.length := (List.getElem?_eq_some_iff.mp hz).1
      have hfl := S.len
      have fin : ∀ u : Int, u = (if z < 0 then 1 else 0) → ∃ acc, H3 D = some (.lst acc) ∧ acc.length < sizeLine ∧ (upd H3 D (.lst (acc ++ [V.int u])) D = some (.lst (nI ((fo.take (i + 1)).map fun z => if z < 0 then 1 else 0))) ∧ Same H2 (upd H3 D (.lst (acc ++ [V.int u])))) := fun u hu => by
        refine ⟨_, y1, by simp [nI, sizeLine_eq]; omega, ?_, fun b o e => by rw [upd_ne (ne_of_none e hD)]; exact y2 b o e⟩
        rw [upd_same, nI_snoc, List.take_add_one, hz, List.map_append, hu]; rfl
      refine ⟨rfl, tY ?_⟩
      refine ⟨_, rfl, _, _, rfl, rfl, _, rfl, ite2 (fun c => ?_) (fun c => ?_)⟩
      · exact fin 1 (by rw [if_pos (of_decide_eq_true c)])
      · exact fin 0 (by rw [if_neg (fun z => c (decide_eq_true z))])
    · rintro H3 ⟨y1, y2⟩
      rw [show (nI fo).length = fo.length by simp [nI], List.take_length] at y1
      exact k H3 D fo S y1 (s2.free hD) (s2.trans y2)
end
/-! ### the wall as numbers -/
def wInts (n : Nat) (R : Nat → Bool) : List Int := ((List.range n).map fun p => (R p).toNat).map fun (x : Nat) => (x : Int)
theorem list_eq_range (f : List Int) (φ : Int → Int) : f.map φ = (List.range f.length).map fun p => φ (Pn.g f p) := by
  apply List.ext_getElem
  · simp
  · intro i h1 h2
    simp only [List.length_map] at h1
    rw [List.getElem_map, List.getElem_map, List.getElem_range]
    have := Pn.g_some h1
    rw [List.getElem?_eq_getElem h1] at this
    rw [Option.some.inj this]
theorem small_ints {N : Pn.FN} {f : List Int} (h : f.length = N.n) : (f.map fun z => if (0 : Int) ≤ z then (1 : Int) else 0) = wInts N.n (Pn.pset N.n f) := by
  rw [list_eq_range, h]
  unfold wInts
  rw [List.map_map]
  refine List.map_congr_left fun p hp => ?_
  have hp := List.mem_range.mp hp
  show (if (0 : Int) ≤ Pn.g f p then (1 : Int) else 0) = ((Pn.pset N.n f p).toNat : Int)
  unfold Pn.pset
  rw [decide_eq_true hp, Bool.true_and]
  by_cases e : 0 ≤ Pn.g f p
  · rw [if_pos e, decide_eq_true e]; rfl
  · rw [if_neg e, decide_eq_false e]; rfl
theorem great_ints {N : Pn.FN} {f : List Int} (h : f.length = N.n) : (f.map fun z => if z < (0 : Int) then (1 : Int) else 0) = wInts N.n (fun p => !Pn.pset N.n f p) := by
  rw [list_eq_range, h]
  unfold wInts
  rw [List.map_map]
  refine List.map_congr_left fun p hp => ?_
  have hp := List.mem_range.mp hp
  show (if Pn.g f p < (0 : Int) then (1 : Int) else 0) = ((!Pn.pset N.n f p).toNat : Int)
  unfold Pn.pset
  rw [decide_eq_true hp, Bool.true_and]
  by_cases e : 0 ≤ Pn.g f p
  · rw [if_neg (by omega), decide_eq_true e]; rfl
  · rw [if_pos (by omega), decide_eq_false e]; rfl
theorem sum_cast (l : List Nat) : (l.map fun (x : Nat) => (x : Int)).sum = ((l.sum : Nat) : Int) := by
  induction l with
  | nil => rfl
  | cons a l ih => rw [List.map_cons, List.sum_cons, ih, List.sum_cons]; omega
theorem wall_told {n : Nat} {R : Nat → Bool} {wl : List Nat} (h : wl = (List.range n).filter R) : (wInts n R).sum = (wl.length : Int) ∧ ∀ k, (wInts n R).take k = (((List.range n).map fun (p : Nat) => (wl.contains p).toNat).take k).map fun (x : Nat) => (x : Int) := by
  subst h
  refine ⟨?_, fun k => ?_⟩
  · unfold wInts
    rw [sum_cast, Pn.wall_count]
  · rw [Pn.wall_list, List.map_take]; rfl
/-! ### Net.narrow -/
def narOk (far mo : Int) : Prop := 0 ≤ far ∧ far ≤ 1 ∧ 0 ≤ mo ∧ mo ≤ 256
def spNarrow (Cn Cf Cr Co Cw : Addr) : Sp := fun vs H Q E => ∃ (a : Addr) (B : NB) (st : Sw14.St) (kv : V) (far mo : Int), vs = [.ref a, .int far, .int mo] ∧ NetAt Cn Cf Cr H a B st kv ∧
  (¬ narOk far mo → E (.ref Co) none H) ∧
  (narOk far mo → st.kept = none → E (.ref Cw) none H) ∧
  (narOk far mo → ∀ x, st.kept = some x → ¬ x.value < x.most → E (.ref Cw) none H) ∧
  (narOk far mo → ∀ x, st.kept = some x → x.value < x.most → ∀ (H' : Hp) (tp lw : Addr), H' tp = some (.tup [.int ((Sw14.wallOf st.net x.s x.t (far == 1) x.flow).length : Nat), .ref lw]) →
    H' lw = some (.lst (nI ((((List.range st.net.places).map fun (p : Nat) => ((Sw14.wallOf st.net x.s x.t (far == 1) x.flow).contains p).toNat).take mo.toNat).map fun (x : Nat) => (x : Int)))) → Same H H' → Q (.ref tp) H')
theorem scNarrow : FnScope ["self", "far", "most", "wall"] ["self", "far", "most"] (defScope sNarrow) := ⟨rfl, rfl, rfl, by decide +kernel, rfl, by decide +kernel, by decide +kernel⟩
section
variable {P : Program} {w : World} {K : PySem.W.Frag} {mg : Str → Option Value} {base : Heap}
theorem ok_narrow {f Cn Cf Cr Co Cw : Addr} {fd : FuncData} (F : Fun K "narrow" "Net.narrow" sNarrow f fd) (T : TNet K Cn) (TF : TFlo K Cf) (TM : TM2 mg) (TBb : TB mg) (TW : TX K mg "NoWallKnown" Cw) (GR : GF P w K mg base (CXE P w) 1 "check_range" ["number", "lowest", "greatest"] (spRange Co))
    (GS : MF P w K mg base CX0 2 Cf "smallest_wall" ["self"] (spSmall Cf Cr)) (GG : MF P w K mg base CX0 2 Cf "greatest_wall" ["self"] (spGreat Cf Cr)) :
    FnOk P w K mg base (CXE P w) 3 f fd ["self", "far", "most"] (spNarrow Cn Cf Cr Co Cw) := by
  obtain ⟨fR, fdR, GR, bR, mR, kR⟩ := GR
  obtain ⟨fS, fdS, GS, bS, mS⟩ := GS
  obtain ⟨fG, fdG, GG, bG, mG⟩ := GG
  obtain ⟨t1, g1⟩ := TM.places
  obtain ⟨bm, nid, hx, Bb, iid, FB⟩ := TW.ex
  refine okE F scNarrow (fun vs H Q E h => ?_) (fun cdv A outer s H vs Q E hr h => ?_)
  · obtain ⟨a, B, st, kv, far, mo, rfl, _⟩ := h
    rfl
  · obtain ⟨a, B, st, kv, far, mo, rfl, Z, k1, k2, k3, k4⟩ := h
    have nd := scNarrow.nd
    have hr1 : Room 1 _ := hr.mono (by decide)
    refine ⟨_, pss_cons (ps_expr (pe_call GR hr1 rfl mR kR bR .nil (passE (E' := E) fun _ _ _ z => z) (pa_cons (pv 1) (pa_cons pe_int (pa_cons pe_int pa_nil)))))
      (pss_cons (ps_expr (pe_call GR hr1 rfl mR kR bR .nil (passE (E' := E) fun _ _ _ z => z) (pa_cons (pv 2) (pa_cons pe_int (pa_cons (pe_glob (v := V.int 256) rfl g1 ⟨_, rfl⟩) pa_nil)))))
      (pss_cons (ps_if (PW.pt (pw_or (pt_cmpR op_isN (pe_fld (pv 0) rfl) pe_non (nomark _)) (pw_or1 (pt_not (pt_val (pe_fld (pe_fld (pv 0) rfl) rfl)))))) (pss_one (ps_raise hr.hd rfl TW.mgx hx FB)) pss_nil)
      (pss_cons (ps_set (i := 3) nd rfl (Or.inl rfl) (pe_ifExp (pt_cmpR op_eq (pv 1) pe_int (nomark _)) (pe_meth0 (pe_fld (pv 0) rfl) TF.cl mG GG hr bG .nil pass0) (pe_meth0 (pe_fld (pv 0) rfl) TF.cl mS GS hr bS .nil pass0)))
      (pss_one (ps_ret (pe_tup (pa_cons (pe_callB (cr_sum rfl) (by rfl) TBb.sum boot_sum (pa_cons (pv 3) pa_nil)) (pa_cons (pe_slice sl_list (pv 3) po_none (po_some (pv 2))) pa_nil)))))))), ?_⟩
    refine ⟨_, rfl, far, 0, 1, rfl, fun h1 h2 => ?_, fun h => k1 fun o => by have := o.1; have := o.2.1; omega⟩
    refine ⟨_, rfl, mo, 0, 256, rfl, fun h3 h4 => ?_, fun h => k1 fun o => by have := o.2.2.1; have := o.2.2.2; omega⟩
    have ok : narOk far mo := ⟨h1, h2, h3, h4⟩
    refine ⟨_, rfl, a, Cn, B.dx, _, _, rfl, Z.obj, T.cl, T.nKept, nf_kept, rfl, _, rfl, ?_⟩
    obtain ⟨kl, ZK⟩ : ∃ kl, KeptAt Cf Cr H st.net st.kept kv kl := ⟨_, Z.kept⟩
    generalize ek : st.kept = kk at ZK
    cases ZK with
    | no => exact iteT (iteT (k2 ok ek))
    | @yes x q dq p A' r KO =>
      refine iteF ?_
      refine ⟨_, rfl, a, Cn, B.dx, _, _, rfl, Z.obj, T.cl, T.nKept, nf_kept, q, Cf, dq, _, _, rfl, KO.obj, TF.cl, TF.nFull, ff_full, _, rfl, ?_⟩
      by_cases hv : x.value < x.most
      · rw [decide_eq_true hv]
        refine iteF ?_
        have gd := Pn.good_of Z.right
        have hvi : (x.value : Int) < (x.most : Int) := by omega
        have k4 := k4 ok x ek hv
        have fin : ∀ (H2 : Hp) (l : Addr) (R : Nat → Bool), Sw14.wallOf st.net x.s x.t (far == 1) x.flow = (List.range st.net.places).filter R → H2 l = some (.lst (nI (wInts st.net.places R))) → Same H H2 → tRet (tTup (tCons (tCB (rSum K) (tCons (tVar 3) tNil)) (tCons (tSl (rSlL K) (tVar 3) tNoPart (tPart (tVar 2))) tNil))) { nx := fun _ H' => Q .non H', rt := Q } [some (.ref a), some (.int far), some (.int mo), some (.ref l)] H2 := by
          intro H2 l R eR hl s2
          obtain ⟨w1, w2⟩ := wall_told eR
          refine ⟨_, rfl, l, _, rfl, SqL.of hl, _, rfl, _, rfl, _, rfl, l, _, rfl, SqL.of hl, fun lw hlw => ?_⟩
          refine ⟨(by show 2 ≤ sizeLine; decide), fun tp htp => ?_⟩
          have sl : Same H2 (upd H2 lw (.lst (cutV (nI (wInts st.net.places R)) none (some mo)))) := fun b o e => by rw [upd_ne (ne_of_none e hlw)]; exact e
          have ltp : lw ≠ tp := ne_of_none upd_same htp
          refine k4 _ tp lw ?_ ?_ (fun b o e => ?_)
          · rw [upd_same, w1]
          · rw [upd_ne ltp, upd_same, ← w2]
            have el : (wInts st.net.places R).length = st.net.places := by simp [wInts]
            congr 2
            obtain ⟨m, rfl⟩ : ∃ m : Nat, mo = (m : Int) := ⟨mo.toNat, by omega⟩
            rw [Int.toNat_natCast]
            unfold cutV
            rw [HT.sIx_none, HT.sIx_nat, List.drop_zero, Nat.sub_zero]
            unfold nI
            rw [List.length_map, el, ← List.map_take]
            congr 1
            by_cases hm : m ≤ st.net.places
            · rw [Nat.min_eq_left hm]
            · rw [Nat.min_eq_right (by omega), List.take_of_length_le (by omega), List.take_of_length_le (by omega)]
          · have := sl b o (s2 b o e)
            rw [upd_ne (ne_of_none this htp)]; exact this
        refine ⟨_, rfl, rfl, _, rfl, ite2 (fun c => ?_) (fun c => ?_)⟩
        · have c := V.int.inj (of_decide_eq_true c)
          subst c
          refine ⟨_, rfl, a, Cn, B.dx, _, _, rfl, Z.obj, T.cl, T.nKept, nf_kept, q, dq, _, rfl, KO.obj, by rfl, q, dq, p, x.s, x.t, _, Pn.fn st.net, A', r, rfl, KO.obj, KO.rooms, KO.room.len, gd, Z.pl, KO.ht, fun H2 l fo S hl hl0 s2 => ?_⟩
          rw [great_ints S.len] at hl
          exact fin H2 l _ (Pn.wall_far Z.right KO.hs KO.ht KO.flow2 KO.flow hvi KO.full2 KO.full (S.leastB gd KO.room)) hl s2
        · have c : far ≠ 1 := fun z => c (decide_eq_true (congrArg V.int z))
          have ef : (far == 1) = false := by simpa using c
          rw [ef] at fin
          refine ⟨_, rfl, a, Cn, B.dx, _, _, rfl, Z.obj, T.cl, T.nKept, nf_kept, q, dq, _, rfl, KO.obj, by rfl, q, dq, p, x.s, x.t, _, Pn.fn st.net, A', r, rfl, KO.obj, KO.rooms, KO.room.len, gd, Z.pl, KO.hs, fun H2 l fo S hl hl0 s2 => ?_⟩
          rw [small_ints S.len] at hl
          exact fin H2 l _ (Pn.wall_near Z.right KO.hs KO.ht KO.flow2 KO.flow hvi KO.full2 KO.full (S.least gd KO.room)) hl s2
      · rw [decide_eq_false hv]
        exact iteT (k3 ok x ek hv)
end
end Px
set_option Elab.async false
set_option linter.all false
set_option maxRecDepth 100000
set_option maxHeartbeats 2000000
namespace Px
open PySem PySem.Spec PyProof.Rows L2
open Sw14 (Pipe Net Right)
/-! ### Net.ways -/
def sg1 (x : Pipe) : Pipe := ⟨x.a, x.b, 1, 0⟩
def spWays (Cn Cf Cr Co : Addr) : Sp := fun vs H Q E => ∃ (a : Addr) (B : NB) (st : Sw14.St) (kv : V) (y z : Int), vs = [.ref a, .int y, .int z] ∧ NetAt Cn Cf Cr H a B st kv ∧
  (twoOk st.net y z → ∀ H', Same H H' → Q (.int ((Sw14.sentOf (Sw14.thin st.net) y.toNat z.toNat (2 ^ 64)).2 : Nat)) H') ∧ (¬ twoOk st.net y z → E (.ref Co) none H)
theorem scWays : FnScope ["self", "a", "b", "single", "pipe"] ["self", "a", "b"] (defScope sWays) := ⟨rfl, rfl, rfl, by decide +kernel, rfl, by decide +kernel, by decide +kernel⟩
section
variable {P : Program} {w : World} {K : PySem.W.Frag} {mg : Str → Option Value} {base : Heap}
theorem ok_ways {f Cn Cf Cr Co : Addr} {fd : FuncData} (F : Fun K "ways" "Net.ways" sWays f fd) (T : TNet K Cn) (TBb : TB mg) (GE : MF P w K mg base (CXE P w) 3 Cn "check_ends" ["self", "start", "goal"] (spEnds Cn Co))
    (GI : IF P w K mg base CX0 2 "Rooms" Cr ["self", "places", "pipes"] (spRooI Cr)) (GL : GF P w K mg base CX0 3 "fill" ["rooms", "start", "goal", "most"] (spFill Cr)) :
    FnOk P w K mg base (CXE P w) 4 f fd ["self", "a", "b"] (spWays Cn Cf Cr Co) := by
  obtain ⟨fE, fdE, GE, bE, mE⟩ := GE
  obtain ⟨fI, fdI, GI, bI, mI, gI⟩ := GI
  obtain ⟨fL, fdL, GL, bL, mL, kL⟩ := GL
  refine okE F scWays (fun vs H Q E h => ?_) (fun cdv A outer s H vs Q E hr h => ?_)
  · obtain ⟨a, B, st, kv, y, z, rfl, _⟩ := h
    rfl
  · obtain ⟨a, B, st, kv, y, z, rfl, Z, k1, k2⟩ := h
    have nd := scWays.nd
    refine ⟨_, pss_cons (ps_expr (pe_meth (pv 0) T.cl mE GE hr bE .nil (passE (E' := E) fun _ _ _ z => z) (pa_cons (pv 1) (pa_cons (pv 2) pa_nil))))
      (pss_cons (ps_setLc (i := 3) (own := [("pipe", 4)]) rfl nd rfl rfl (sw_true rfl rfl rfl rfl) (pi_list (pe_fld (pv 0) rfl)) (blkOk_by (by rfl)) (fun _ _ _ _ _ => pg_name (i := 4) nd rfl (Or.inl rfl)) (fun _ _ _ _ _ => pts_one (pt_cmpR op_gt (pe_ix (ix_tupK K) (pv 4) pe_int (fun _ _ => rfl)) pe_int (nomark _)))
        (fun _ _ _ _ _ => pe_tup (pa_cons (pe_ix (ix_tupK K) (pv 4) pe_int (fun _ _ => rfl)) (pa_cons (pe_ix (ix_tupK K) (pv 4) pe_int (fun _ _ => rfl)) (pa_cons pe_int (pa_cons pe_int pa_nil))))))
      (pss_one (ps_ret (pe_call GL hr rfl mL kL bL .nil pass0 (pa_cons (pe_make mI GI hr rfl gI bI .nil pass0 (pa_cons (pe_fld (pv 0) rfl) (pa_cons (pv 3) pa_nil))) (pa_cons (pv 1) (pa_cons (pv 2) (pa_cons (pe_callB call_len_seq (by rfl) TBb.len PySem.boot_len (pa_cons (pv 3) pa_nil)) pa_nil)))))))), ?_⟩
    refine ⟨_, rfl, a, B.dx, _, rfl, Z.obj, by rfl, _, rfl, _, rfl, a, B.dx, B.lp, st.net.places, kv, y, z, rfl, Z.obj, fun h1 h2 h3 h4 h5 => ?_, fun h => k2 h⟩
    have two : twoOk st.net y z := ⟨h1, h2, h3, h4, h5⟩
    obtain ⟨s, rfl⟩ : ∃ s : Nat, y = (s : Int) := ⟨y.toNat, by omega⟩
    obtain ⟨t, rfl⟩ : ∃ t : Nat, z = (t : Int) := ⟨z.toNat, by omega⟩
    have k1 := k1 two
    rw [Int.toNat_natCast, Int.toNat_natCast] at k1
    have hs : s < st.net.places := by omega
    have ht : t < st.net.places := by omega
    have hst : s ≠ t := fun e => h5 (by rw [e])
    have PA := Z.pipes
    -- single = [..]
    refine ⟨_, rfl, a, Cn, B.dx, _, _, rfl, Z.obj, T.cl, T.nPipes, nf_pipes, B.lp, rfl, ⟨_, SqL.of PA.lst⟩, fun D hD => ?_⟩
    refine lc_list (K := K) (a := B.lp) (xs := B.ps.map V.ref) (fun i H' => ∃ ts : List Addr, PipesAt H' D (((st.net.pipes.take i).filter Pn.pos).map sg1) ts ∧ Same H H')
      ⟨[], ⟨upd_same, by simp, fun i b x e => (by simp at e)⟩, fun b o e => by rw [upd_ne (ne_of_none e hD)]; exact e⟩ (fun i H' _ ⟨_, _, z⟩ => SqL.of (z _ _ PA.lst)) ?_ ?_
    · rintro i y H' hy ⟨ts, PT, s2⟩
      obtain ⟨b, hb, rfl⟩ : ∃ b, B.ps[i]? = some b ∧ y = V.ref b := by
        rw [List.getElem?_map] at hy
        cases e : B.ps[i]? with
        | none => rw [e] at hy; cases hy
        | some z => rw [e] at hy; exact ⟨z, rfl, (Option.some.inj hy).symm⟩
      have hip : i < st.net.pipes.length := by rw [← PA.len]; exact (List.getElem?_eq_some_iff.mp hb).1
      have hx := List.getElem?_eq_getElem hip
      generalize st.net.pipes[i] = x at hx
      have tb : H' b = some (.tup (pT x)) := s2 _ _ (PA.tup i b x hb hx)
      have et : (st.net.pipes.take (i + 1)).filter Pn.pos = (st.net.pipes.take i).filter Pn.pos ++ (if 0 < x.holds then [x] else []) := by
        rw [List.take_add_one, hx, List.filter_append]
        congr 1
        show [x].filter Pn.pos = _
        rw [List.filter_cons]
        by_cases e : 0 < x.holds
        · rw [if_pos e, if_pos (show Pn.pos x = true from decide_eq_true e)]; rfl
        · rw [if_neg e, if_neg (by unfold Pn.pos; simpa using e)]; rfl
      refine ⟨rfl, ?_⟩
      refine ⟨_, rfl, b, _, _, _, rfl, rfl, SqT.of tb, at_of (j := 2) rfl rfl, _, _, rfl, rfl, _, rfl, ite2 (fun c => ?_) (fun c => ?_)⟩
      · have c : 0 < x.holds := by have := of_decide_eq_true c; omega
        rw [if_pos c] at et
        refine ⟨_, rfl, b, _, _, _, rfl, rfl, SqT.of tb, at_of (j := 0) rfl rfl, _, rfl, b, _, _, _, rfl, rfl, SqT.of tb, at_of (j := 1) rfl rfl, (by show 4 ≤ sizeLine; decide), fun tp htp => ?_⟩
        have nDt : D ≠ tp := ne_of_none PT.lst htp
        have tl : ts.length ≤ i := by
          rw [PT.len, List.length_map]
          have := List.length_filter_le Pn.pos (st.net.pipes.take i)
          rw [List.length_take] at this
          omega
        refine ⟨_, by rw [upd_ne nDt]; exact PT.lst, by rw [List.length_map, sizeLine_eq]; have := Z.len; omega, ts ++ [tp], ⟨by rw [upd_same, List.map_append]; rfl, ?_, fun i' b' x' e1 e2 => ?_⟩, fun b' o e => ?_⟩
        · rw [et, List.map_append, List.length_append, List.length_append, PT.len]; rfl
        · rw [et, List.map_append] at e2
          by_cases hi : i' < ts.length
          · rw [List.getElem?_append_left hi] at e1
            rw [List.getElem?_append_left (by rw [← PT.len]; exact hi)] at e2
            have h := PT.tup i' b' x' e1 e2
            rw [upd_ne (ne_of h PT.lst (by intro z; cases z)), upd_ne (ne_of_none h htp)]; exact h
          · have hi2 : i' = ts.length := by
              have := (List.getElem?_eq_some_iff.mp e1).1
              simp at this; omega
            subst hi2
            rw [List.getElem?_append_right (Nat.le_refl _)] at e1
            rw [List.getElem?_append_right (by rw [← PT.len]; exact Nat.le_refl _), ← PT.len] at e2
            simp at e1 e2
            subst e1 e2
            rw [upd_ne (Ne.symm nDt), upd_same]
            rfl
        · have z := s2 b' o e
          rw [upd_ne (ne_of_none e hD), upd_ne (ne_of_none z htp)]; exact z
      · have c : ¬ 0 < x.holds := fun z => c (decide_eq_true (by show (0 : Int) < (x.holds : Int); omega))
        rw [if_neg c, List.append_nil] at et
        exact ⟨ts, by rw [et]; exact PT, s2⟩
    · rintro H2 ⟨ts, PT, s2⟩
      rw [List.length_map, PA.len, List.take_length] at PT
      have eS : ((st.net.pipes.filter Pn.pos).map sg1) = (Pn.single st.net).pipes := rfl
      rw [eS] at PT
      have Z2 := Z.same s2
      have sl : (Pn.single st.net).pipes.length ≤ 4096 := by
        show ((st.net.pipes.filter Pn.pos).map _).length ≤ 4096
        rw [List.length_map]
        have := List.length_filter_le Pn.pos st.net.pipes
        have := Z.len
        omega
      have rt := Pn.single_right Z.right
      have gd := Pn.good_of rt
      refine ⟨_, rfl, a, Cn, B.dx, _, _, rfl, Z2.obj, T.cl, T.nPlaces, nf_places, _, rfl, fun p1 d1 n1 m1 e1 => ?_⟩
      generalize eH1 : upd (upd H2 d1 (.own p1)) p1 (.ins Cr d1 []) = H3
      have s3 : Same H2 H3 := fun b o e => by rw [← eH1, upd_ne (ne_of_none e n1), upd_ne (ne_of_none e m1)]; exact e
      have q3 : H3 p1 = some (.ins Cr d1 []) := by rw [← eH1]; exact upd_same
      refine ⟨p1, d1, D, Pn.single st.net, ts, rfl, q3, PT.keepF fun b o e _ => s3 b o e, rt, Z.pl, sl, fun H4 A1 R4 kp4 fr4 => ⟨rfl, ?_⟩⟩
      have s4 : Same H2 H4 := fun b o e => kp4 b o (s3 b o e) (fun z => by simp at z; rw [z, n1] at e; cases e)
      have D4 : H4 D = some (.lst (ts.map V.ref)) := s4 _ _ PT.lst
      refine ⟨_, rfl, _, rfl, _, rfl, D, _, rfl, .inl (SqL.of D4), ?_⟩
      rw [List.length_map, PT.len]
      refine ⟨p1, Pn.fn (Pn.single st.net), A1, s, t, _, rfl, R4, gd, Z.pl, sl, hs, ht, hst, by omega, fun H5 r5 b FL FU kp5 => ?_⟩
      have fA : H2 A1.lr = none := s3.free (fr4 A1.lr (by simp [RA.all]))
      have ev := Pn.ways_eq Z.right hs ht hst (by have := Z.len; omega) FL.flow FU
      rw [← ev]
      refine k1 H5 fun b' o e => kp5 b' o (s4 b' o (s2 b' o e)) (fun z => ?_)
      simp at z
      have := s2 b' o e
      rw [z, fA] at this; cases this
end
end Px
set_option Elab.async false
set_option linter.all false
set_option maxRecDepth 100000
set_option maxHeartbeats 2000000
namespace Px
open PySem PySem.Spec PyProof.Rows L2
open Sw14 (Pipe Net Right)
inductive NetS (Cn Cf Cr : Addr) (H : Hp) (a : Addr) : Option Sw14.St → List Addr → Prop
  | new {dx lp0 : Addr} {n0 : Nat} {kv0 : V} : H a = some (.ins Cn dx (nf n0 lp0 kv0)) → NetS Cn Cf Cr H a none [a]
  | op {B : NB} {st : Sw14.St} {kv : V} : NetAt Cn Cf Cr H a B st kv → NetS Cn Cf Cr H a (some st) (fp a B)
section
variable {Cn Cf Cr : Addr} {H H' : Hp} {a : Addr} {s : Option Sw14.St} {F : List Addr}
theorem NetS.obj (Z : NetS Cn Cf Cr H a s F) : ∃ dx lp0 n0 kv0, H a = some (.ins Cn dx (nf n0 lp0 kv0)) := by
  cases Z with
  | new h => exact ⟨_, _, _, _, h⟩
  | op Z => exact ⟨_, _, _, _, Z.obj⟩
theorem NetAt.tracked {B : NB} {st : Sw14.St} {kv : V} (Z : NetAt Cn Cf Cr H a B st kv) {b : Addr} (m : b ∈ fp a B) : H b ≠ none := by
  simp only [fp, List.mem_cons, List.mem_append] at m
  rcases m with e | e | e | e
  · rw [e, Z.obj]; simp
  · rw [e, Z.pipes.lst]; simp
  · obtain ⟨i, hi, ei⟩ := List.getElem_of_mem e
    have hi2 : i < st.net.pipes.length := by rw [← Z.pipes.len]; exact hi
    rw [Z.pipes.tup i b _ (by rw [List.getElem?_eq_getElem hi, ei]) (List.getElem?_eq_getElem hi2)]; simp
  · obtain ⟨kl, ek, ZK⟩ : ∃ kl, kl = B.kl ∧ KeptAt Cf Cr H st.net st.kept kv kl := ⟨_, rfl, Z.kept⟩
    rw [← ek] at e
    generalize st.kept = kk at ZK
    cases ZK with
    | no => cases e
    | yes KO =>
      rcases List.mem_cons.mp e with e | e
      · rw [e, KO.obj]; simp
      · exact fun h => KO.rooms.len h e
theorem NetS.tracked (Z : NetS Cn Cf Cr H a s F) {b : Addr} (m : b ∈ F) : H b ≠ none := by
  cases Z with
  | new h => simp at m; rw [m, h]; simp
  | op Z => exact Z.tracked m
theorem NetS.mem (Z : NetS Cn Cf Cr H a s F) : a ∈ F := by
  cases Z with
  | new h => simp
  | op Z => simp [fp]
theorem NetS.keep (Z : NetS Cn Cf Cr H a s F) (k : ∀ b ob, H b = some ob → b ∈ F → H' b = some ob) : NetS Cn Cf Cr H' a s F := by
  cases Z with
  | new h => exact .new (k _ _ h (by simp))
  | op Z => exact .op (Z.keep k)
end
/-! ### what is asked of a call -/
theorem asked_cases {c : Int} {xs : List Int} (h : Sw14Neutral.asked1 [c :: xs] = true) : (∃ p, c = 1 ∧ xs = [p]) ∨ (∃ x y hd co, c = 2 ∧ xs = [x, y, hd, co] ∧ 0 ≤ hd) ∨ (∃ y z mo, c = 3 ∧ xs = [y, z, mo] ∧ 0 ≤ mo ∧ mo ≤ 18446744073709551615) ∨ (∃ far mo, c = 4 ∧ xs = [far, mo]) ∨ (∃ y z, c = 5 ∧ xs = [y, z]) := by
  unfold Sw14Neutral.asked1 at h
  split at h
  · rename_i e; simp at e; exact .inl ⟨_, e.1, e.2⟩
  · rename_i e; simp at e
    simp only [Bool.and_eq_true, Sw14Neutral.natural, decide_eq_true_eq] at h
    exact .inr (.inl ⟨_, _, _, _, e.1, e.2, h.2.2.1.1⟩)
  · rename_i e; simp at e
    simp only [Bool.and_eq_true, Sw14Neutral.natural, decide_eq_true_eq] at h
    exact .inr (.inr (.inl ⟨_, _, _, e.1, e.2, h.2.2.1, by have := h.2.2.2; omega⟩))
  · rename_i e; simp at e; exact .inr (.inr (.inr (.inl ⟨_, _, e.1, e.2⟩)))
  · rename_i e; simp at e; exact .inr (.inr (.inr (.inr ⟨_, _, e.1, e.2⟩)))
  · cases h
def tell (x : Sw14.Ans) : List Int := x.code :: (Sw14Neutral.ints x.nums ++ Sw14Neutral.ints x.side)
theorem step_of {s : Option Sw14.St} {c : List (List Int)} {x : Sw14.Call} (h : Sw14Neutral.callOf c = some x) : Sw14Neutral.step s c = ((Sw14.worked s x).1, tell (Sw14.worked s x).2) := by
  unfold Sw14Neutral.step
  rw [h]
  rfl
theorem place_iff {n : Net} {y : Int} : Sw14.isPlace n y = true ↔ 0 ≤ y ∧ y < n.places := by simp [Sw14.isPlace]
theorem two_iff {n : Net} {y z : Int} : Sw14.two n y z = true ↔ twoOk n y z := by
  unfold Sw14.two twoOk
  simp [place_iff, and_assoc]
theorem lay_iff {n : Net} {x y hd co : Int} (h0 : 0 ≤ hd) : (Sw14.isPlace n x && (Sw14.isPlace n y && (decide (hd.toNat ≤ Sw14.HOLDS) && (decide (0 ≤ co) && decide (co ≤ (Sw14.COST : Int)))))) = true ↔ layOk n x y hd co := by
  simp only [Bool.and_eq_true, place_iff, decide_eq_true_eq]
  have e1 : Sw14.HOLDS = 4611686018427387904 := by decide
  have e2 : Sw14.COST = 1000000000 := rfl
  rw [e1, e2]
  unfold layOk
  constructor
  · rintro ⟨⟨a, b⟩, ⟨c, d⟩, e, f, g⟩
    exact ⟨a, b, c, d, h0, by omega, f, by omega⟩
  · rintro ⟨a, b, c, d, e, f, g, i⟩
    exact ⟨⟨a, b⟩, ⟨c, d⟩, by omega, g, by omega⟩
theorem Kp.far {F : List Addr} {H H2 : Hp} {l : Addr} (k : Kp F H H2) (h : H2 l = none) : ∀ b, H b ≠ none → b ∉ F → b ≠ l := fun b hb nb e => by
  cases q : H b with
  | none => exact hb q
  | some o => rw [e] at q nb; rw [k l o q nb] at h; cases h
theorem w_open {m : Option Sw14.St} {k : Int} : Sw14.worked m (.open_ k) = if 2 ≤ k ∧ k ≤ 256 then (some ⟨⟨k.toNat, []⟩, none⟩, Sw14.says 0) else (m, Sw14.says (-2)) := by cases m <;> rfl
/-! ### answer_of -/
def Opens (c : Int) (xs : List Int) : Prop := c = 1 ∧ ∃ z, xs = [z] ∧ 2 ≤ z ∧ z ≤ 256
def spAof (Cn Cf Cr Co Cfu Cw : Addr) : Sp := fun vs H Q E => ∃ (a ln : Addr) (c : Int) (xs : List Int) (s : Option Sw14.St) (F : List Addr), vs = [.ref a, .int c, .ref ln] ∧ H ln = some (.lst (nI xs)) ∧ Sw14Neutral.asked1 [c :: xs] = true ∧ NetS Cn Cf Cr H a s F ∧ (s = none → Opens c xs) ∧
  (Sw14Neutral.step s [c :: xs] = (s, [-2]) → E (.ref Co) none H) ∧ (Sw14Neutral.step s [c :: xs] = (s, [-1]) → E (.ref Cfu) none H ∧ E (.ref Cw) none H) ∧
  ∀ (H' : Hp) (l : Addr) (F' : List Addr), NetS Cn Cf Cr H' a (Sw14Neutral.step s [c :: xs]).1 F' → H' l = some (.lst (nI (Sw14Neutral.step s [c :: xs]).2)) → Kp F H H' → (∀ b, b ∈ F' → b ∈ F ∨ H b = none) → (∀ b, H b ≠ none → b ∉ F → b ≠ l) → l ∉ F' → (Sw14Neutral.step s [c :: xs]).2.length ≤ 300 → Q (.ref l) H'
theorem scAof : FnScope ["net", "call", "numbers", "sent", "wall"] ["net", "call", "numbers"] (defScope sAof) := ⟨rfl, rfl, rfl, by decide +kernel, rfl, by decide +kernel, by decide +kernel⟩
structure TM3 (mg : Str → Option Value) : Prop where
  new : ∃ t, mg "NEW_NET" = some (Value.int 1 t)
  pipe : ∃ t, mg "PIPE" = some (Value.int 2 t)
  send : ∃ t, mg "SEND" = some (Value.int 3 t)
  narrow : ∃ t, mg "NARROW" = some (Value.int 4 t)
section
variable {P : Program} {w : World} {K : PySem.W.Frag} {mg : Str → Option Value} {base : Heap}
theorem ok_aof {f Cn Cf Cr Co Cfu Cw : Addr} {fd : FuncData} (F : Fun K "answer_of" "answer_of" sAof f fd) (T : TNet K Cn) (TM : TM3 mg)
    (GB : MF P w K mg base (CXE P w) 2 Cn "begin" ["self", "places"] (spBegin Cn Cf Cr Co)) (GL : MF P w K mg base (CXE P w) 3 Cn "lay" ["self", "a", "b", "holds", "cost"] (spLay Cn Cf Cr Co Cfu))
    (GS : MF P w K mg base (CXE P w) 6 Cn "send" ["self", "start", "goal", "most"] (spSend Cn Cf Cr Co)) (GN : MF P w K mg base (CXE P w) 3 Cn "narrow" ["self", "far", "most"] (spNarrow Cn Cf Cr Co Cw))
    (GW : MF P w K mg base (CXE P w) 4 Cn "ways" ["self", "a", "b"] (spWays Cn Cf Cr Co)) :
    FnOk P w K mg base (CXE P w) 7 f fd ["net", "call", "numbers"] (spAof Cn Cf Cr Co Cfu Cw) := by
  obtain ⟨fB, fdB, GB, bB, mB⟩ := GB
  obtain ⟨fL, fdL, GL, bL, mL⟩ := GL
  obtain ⟨fS, fdS, GS, bS, mS⟩ := GS
  obtain ⟨fN, fdN, GN, bN, mN⟩ := GN
  obtain ⟨fW, fdW, GW, bW, mW⟩ := GW
  obtain ⟨t1, g1⟩ := TM.new
  obtain ⟨t2, g2⟩ := TM.pipe
  obtain ⟨t3, g3⟩ := TM.send
  obtain ⟨t4, g4⟩ := TM.narrow
  refine okE F scAof (fun vs H Q E h => ?_) (fun cdv A outer s H vs Q E hr h => ?_)
  · obtain ⟨a, ln, c, xs, s, F, rfl, _⟩ := h
    rfl
  · obtain ⟨a, ln, c, xs, st, Fo, rfl, hln, hask, Z, hopen, k2, k3, k1⟩ := h
    have nd := scAof.nd
    have hr2 : Room 2 _ := hr.mono (by decide)
    have hr3 : Room 3 _ := hr.mono (by decide)
    have hr4 : Room 4 _ := hr.mono (by decide)
    refine ⟨_, pss_cons (ps_if (pt_cmpR op_eq (pv 1) (pe_glob (v := V.int 1) rfl g1 ⟨_, rfl⟩) (nomark _)) (pss_cons (ps_expr (pe_meth (pv 0) T.cl mB GB hr2 bB .nil (passE (E' := E) fun _ _ _ z => z) (pa_cons (pe_ix ix_list (pv 2) pe_int (fun _ _ => rfl)) pa_nil))) (pss_one (ps_ret (pe_lst (pa_cons pe_int pa_nil))))) pss_nil)
      (pss_cons (ps_if (pt_cmpR op_eq (pv 1) (pe_glob (v := V.int 2) rfl g2 ⟨_, rfl⟩) (nomark _)) (pss_one (ps_ret (pe_lst (pa_cons (pe_meth (pv 0) T.cl mL GL hr3 bL .nil (passE (E' := E) fun _ _ _ z => z) (pa_cons (pe_ix ix_list (pv 2) pe_int (fun _ _ => rfl)) (pa_cons (pe_ix ix_list (pv 2) pe_int (fun _ _ => rfl)) (pa_cons (pe_ix ix_list (pv 2) pe_int (fun _ _ => rfl)) (pa_cons (pe_ix ix_list (pv 2) pe_int (fun _ _ => rfl)) pa_nil))))) pa_nil)))) pss_nil)
      (pss_cons (ps_if (pt_cmpR op_eq (pv 1) (pe_glob (v := V.int 3) rfl g3 ⟨_, rfl⟩) (nomark _)) (pss_cons (ps_set (i := 3) nd rfl (Or.inl rfl) (pe_meth (pv 0) T.cl mS GS hr bS .nil (passE (E' := E) fun _ _ _ z => z) (pa_cons (pe_ix ix_list (pv 2) pe_int (fun _ _ => rfl)) (pa_cons (pe_ix ix_list (pv 2) pe_int (fun _ _ => rfl)) (pa_cons (pe_ix ix_list (pv 2) pe_int (fun _ _ => rfl)) pa_nil)))))
        (pss_one (ps_ret (pe_lst (pa_cons pe_int (pa_cons (pe_ix ix_tup (pv 3) pe_int (fun _ _ => rfl)) (pa_cons (pe_ix ix_tup (pv 3) pe_int (fun _ _ => rfl)) pa_nil))))))) pss_nil)
      (pss_cons (ps_if (pt_cmpR op_eq (pv 1) (pe_glob (v := V.int 4) rfl g4 ⟨_, rfl⟩) (nomark _)) (pss_cons (ps_set (i := 4) nd rfl (Or.inl rfl) (pe_meth (pv 0) T.cl mN GN hr3 bN .nil (passE (E' := E) fun _ _ _ z => z) (pa_cons (pe_ix ix_list (pv 2) pe_int (fun _ _ => rfl)) (pa_cons (pe_ix ix_list (pv 2) pe_int (fun _ _ => rfl)) pa_nil))))
        (pss_one (ps_ret (pe_op op_cat (pe_lst (pa_cons (pe_ix ix_tup (pv 4) pe_int (fun _ _ => rfl)) pa_nil)) (pe_ix ix_tup (pv 4) pe_int (fun _ _ => rfl)))))) pss_nil)
      (pss_one (ps_ret (pe_lst (pa_cons (pe_meth (pv 0) T.cl mW GW hr4 bW .nil (passE (E' := E) fun _ _ _ z => z) (pa_cons (pe_ix ix_list (pv 2) pe_int (fun _ _ => rfl)) (pa_cons (pe_ix ix_list (pv 2) pe_int (fun _ _ => rfl)) pa_nil))) pa_nil))))))), ?_⟩
    have at0 : ∀ {i : Nat} {v : Int}, xs[i]? = some v → atI (nI xs) (i : Int) = some (V.int v) := fun {i v} h => at_of rfl (by rw [List.getElem?_map, h]; rfl)
    refine ⟨_, rfl, rfl, _, rfl, ?_⟩
    rcases asked_cases hask with ⟨z, rfl, rfl⟩ | ⟨x, y, hd, co, rfl, rfl, h0⟩ | ⟨y, z, mo, rfl, rfl, h0, h0'⟩ | ⟨far, mo, rfl, rfl⟩ | ⟨y, z, rfl, rfl⟩
    · -- open
      refine iteT ?_
      obtain ⟨dx, lp0, n0, kv0, ho⟩ := Z.obj
      have es : Sw14Neutral.step st [[1, z]] = ((Sw14.worked st (.open_ z)).1, tell (Sw14.worked st (.open_ z)).2) := step_of rfl
      refine ⟨_, rfl, a, dx, _, rfl, ho, by rfl, _, rfl, ln, _, _, _, rfl, rfl, SqL.of hln, at0 (i := 0) rfl, a, dx, lp0, n0, kv0, z, rfl, ho, fun h1 h2 H2 B2 kv2 Z2 kp2 fr2 => ?_, fun h => k2 ?_⟩
      · rw [w_open, if_pos ⟨h1, h2⟩] at es
        rw [es] at k1
        refine ⟨(by show 1 ≤ sizeLine; decide), fun l hl => ?_⟩
        have ma := Z.mem
        have kpF : Kp Fo H H2 := kp2.mono (by simp [ma])
        refine k1 _ l (fp a B2) (.op (Z2.same fun b o e => by rw [upd_ne (ne_of_none e hl)]; exact e)) upd_same (kpF.new hl) (fun b hb => ?_) (kpF.far hl) (fun m => Z2.tracked m hl) (by show 1 ≤ 300; decide)
        rcases fr2 b hb with e | e
        · exact .inl (e ▸ ma)
        · exact .inr e
      · rw [es, w_open, if_neg h]
        rfl
    · -- pipe
      refine iteF ?_
      refine ⟨_, rfl, rfl, _, rfl, iteT ?_⟩
      cases Z with
      | new h => obtain ⟨e, _⟩ := hopen rfl; exact absurd e (by decide)
      | @op B sx kv Z =>
        have es : Sw14Neutral.step (some sx) [[2, x, y, hd, co]] = ((Sw14.worked (some sx) (.pipe x y hd.toNat co)).1, tell (Sw14.worked (some sx) (.pipe x y hd.toNat co)).2) := step_of rfl
        have ew : Sw14.worked (some sx) (.pipe x y hd.toNat co) = if (Sw14.isPlace sx.net x && (Sw14.isPlace sx.net y && (decide (hd.toNat ≤ Sw14.HOLDS) && (decide (0 ≤ co) && decide (co ≤ (Sw14.COST : Int)))))) = false then (some sx, Sw14.says (-2)) else if sx.net.pipes.length = Sw14.PIPES then (some sx, Sw14.says (-1)) else
          (some ⟨{ sx.net with pipes := sx.net.pipes ++ [⟨x.toNat, y.toNat, hd.toNat, co.toNat⟩] }, none⟩, Sw14.says sx.net.pipes.length) := rfl
        have eP : Sw14.PIPES = 4096 := rfl
        rw [eP] at ew
        refine ⟨_, rfl, a, B.dx, _, rfl, Z.obj, by rfl, _, rfl, ln, _, _, _, rfl, rfl, SqL.of hln, at0 (i := 0) rfl, _, rfl, ln, _, _, _, rfl, rfl, SqL.of hln, at0 (i := 1) rfl, _, rfl, ln, _, _, _, rfl, rfl, SqL.of hln, at0 (i := 2) rfl, _, rfl, ln, _, _, _, rfl, rfl, SqL.of hln, at0 (i := 3) rfl, a, B, sx, kv, x, y, hd, co, rfl, Z, fun lo hlt H2 B2 kv2 Z2 kp2 fr2 => ?_, fun lo => k2 ?_, fun lo hlt => (k3 ?_).1⟩
        · rw [if_neg (by rw [(lay_iff h0).mpr lo]; decide), if_neg (by omega)] at ew
          rw [ew] at es
          rw [es] at k1
          refine ⟨(by show 1 ≤ sizeLine; decide), fun l hl => ?_⟩
          exact k1 _ l (fp a B2) (.op (Z2.same fun b o e => by rw [upd_ne (ne_of_none e hl)]; exact e)) upd_same (kp2.new hl) fr2 (kp2.far hl) (fun m => Z2.tracked m hl) (by show 1 ≤ 300; decide)
        · have e : (Sw14.isPlace sx.net x && (Sw14.isPlace sx.net y && (decide (hd.toNat ≤ Sw14.HOLDS) && (decide (0 ≤ co) && decide (co ≤ (Sw14.COST : Int)))))) = false := by
            cases q : (Sw14.isPlace sx.net x && (Sw14.isPlace sx.net y && (decide (hd.toNat ≤ Sw14.HOLDS) && (decide (0 ≤ co) && decide (co ≤ (Sw14.COST : Int)))))) with
            | false => rfl
            | true => exact absurd ((lay_iff h0).mp q) lo
          rw [es, ew, if_pos e]
          rfl
        · have := Z.len
          rw [es, ew, if_neg (by rw [(lay_iff h0).mpr lo]; decide), if_pos (by omega)]
          rfl
    · -- send
      refine iteF ?_
      refine ⟨_, rfl, rfl, _, rfl, iteF ?_⟩
      refine ⟨_, rfl, rfl, _, rfl, iteT ?_⟩
      cases Z with
      | new h => obtain ⟨e, _⟩ := hopen rfl; exact absurd e (by decide)
      | @op B sx kv Z =>
        obtain ⟨mo, rfl⟩ : ∃ m : Nat, mo = (m : Int) := ⟨mo.toNat, by omega⟩
        have es : Sw14Neutral.step (some sx) [[3, y, z, (mo : Int)]] = ((Sw14.worked (some sx) (.send y z mo)).1, tell (Sw14.worked (some sx) (.send y z mo)).2) := step_of rfl
        have ew : Sw14.worked (some sx) (.send y z mo) = if Sw14.two sx.net y z = false then (some sx, Sw14.says (-2)) else
          (some { sx with kept := some ⟨y.toNat, z.toNat, mo, (Sw14.sentOf sx.net y.toNat z.toNat mo).1, (Sw14.sentOf sx.net y.toNat z.toNat mo).2⟩ }, ⟨0, [(Sw14.sentOf sx.net y.toNat z.toNat mo).2, Sw14.costOf sx.net (Sw14.sentOf sx.net y.toNat z.toNat mo).1], []⟩) := rfl
        refine ⟨_, rfl, a, B.dx, _, rfl, Z.obj, by rfl, _, rfl, ln, _, _, _, rfl, rfl, SqL.of hln, at0 (i := 0) rfl, _, rfl, ln, _, _, _, rfl, rfl, SqL.of hln, at0 (i := 1) rfl, _, rfl, ln, _, _, _, rfl, rfl, SqL.of hln, at0 (i := 2) rfl, a, B, sx, kv, y, z, mo, rfl, Z, h0', fun two H2 B2 kv2 tp Z2 kp2 fr2 htp => ?_, fun two => k2 ?_⟩
        · rw [if_neg (by rw [two_iff.mpr two]; decide)] at ew
          rw [ew] at es
          rw [es] at k1
          refine ⟨_, rfl, tp, _, _, _, rfl, rfl, SqT.of htp, at_of (j := 0) rfl rfl, _, rfl, tp, _, _, _, rfl, rfl, SqT.of htp, at_of (j := 1) rfl rfl, (by show 3 ≤ sizeLine; decide), fun l hl => ?_⟩
          exact k1 _ l (fp a B2) (.op (Z2.same fun b o e => by rw [upd_ne (ne_of_none e hl)]; exact e)) upd_same (kp2.new hl) fr2 (kp2.far hl) (fun m => Z2.tracked m hl) (by show 3 ≤ 300; decide)
        · have e : Sw14.two sx.net y z = false := by
            cases q : Sw14.two sx.net y z with
            | false => rfl
            | true => exact absurd (two_iff.mp q) two
          rw [es, ew, if_pos e]
          rfl
    · -- narrow
      refine iteF ?_
      refine ⟨_, rfl, rfl, _, rfl, iteF ?_⟩
      refine ⟨_, rfl, rfl, _, rfl, iteF ?_⟩
      refine ⟨_, rfl, rfl, _, rfl, iteT ?_⟩
      cases Z with
      | new h => obtain ⟨e, _⟩ := hopen rfl; exact absurd e (by decide)
      | @op B sx kv Z =>
        have es : Sw14Neutral.step (some sx) [[4, far, mo]] = ((Sw14.worked (some sx) (.narrow far mo)).1, tell (Sw14.worked (some sx) (.narrow far mo)).2) := step_of rfl
        have ew : Sw14.worked (some sx) (.narrow far mo) = if far < 0 ∨ 1 < far ∨ mo < 0 ∨ 256 < mo then (some sx, Sw14.says (-2)) else match sx.kept with
          | none => (some sx, Sw14.says (-1))
          | some x => if x.most ≤ x.value then (some sx, Sw14.says (-1)) else
            (some sx, ⟨((Sw14.wallOf sx.net x.s x.t (far == 1) x.flow).length : Int), [], ((List.range sx.net.places).map fun (p : Nat) => ((Sw14.wallOf sx.net x.s x.t (far == 1) x.flow).contains p).toNat).take mo.toNat⟩) := rfl
        refine ⟨_, rfl, a, B.dx, _, rfl, Z.obj, by rfl, _, rfl, ln, _, _, _, rfl, rfl, SqL.of hln, at0 (i := 0) rfl, _, rfl, ln, _, _, _, rfl, rfl, SqL.of hln, at0 (i := 1) rfl, a, B, sx, kv, far, mo, rfl, Z, fun no => k2 ?_, fun ok ek => (k3 ?_).2, fun ok x ek hv => (k3 ?_).2, fun ok x ek hv H2 tp lw htp hlw s2 => ?_⟩
        · rw [es, ew, if_pos (by unfold narOk at no; omega)]
          rfl
        · rw [es, ew, if_neg (by unfold narOk at ok; omega), ek]
          rfl
        · rw [es, ew, if_neg (by unfold narOk at ok; omega), ek]
          dsimp only
          rw [if_pos (by omega)]
          rfl
        · rw [if_neg (by unfold narOk at ok; omega), ek] at ew
          dsimp only at ew
          rw [if_neg (by omega)] at ew
          rw [ew] at es
          rw [es] at k1
          refine ⟨_, rfl, tp, _, _, _, rfl, rfl, SqT.of htp, at_of (j := 0) rfl rfl, (by show 1 ≤ sizeLine; decide), fun l1 hl1 => ?_⟩
          have s3 : Same H2 (upd H2 l1 (.lst [V.int ((Sw14.wallOf sx.net x.s x.t (far == 1) x.flow).length : Nat)])) := fun b o e => by rw [upd_ne (ne_of_none e hl1)]; exact e
          have ll : (((List.range sx.net.places).map fun (p : Nat) => ((Sw14.wallOf sx.net x.s x.t (far == 1) x.flow).contains p).toNat).take mo.toNat).length ≤ 256 := by
            rw [List.length_take, List.length_map, List.length_range]
            have := Z.pl
            omega
          refine ⟨_, rfl, tp, _, _, _, rfl, rfl, SqT.of (s3 _ _ htp), at_of (j := 1) rfl rfl, l1, lw, _, _, rfl, rfl, upd_same, s3 _ _ hlw, ?_, fun l hl => ?_⟩
          · rw [List.length_map, List.length_map]
            show 1 + _ ≤ sizeLine
            rw [sizeLine_eq]; omega
          · have s4 : Same H (upd H2 l1 (.lst [V.int ((Sw14.wallOf sx.net x.s x.t (far == 1) x.flow).length : Nat)])) := s2.trans s3
            have k4 : Kp (fp a B) H (upd H2 l1 (.lst [V.int ((Sw14.wallOf sx.net x.s x.t (far == 1) x.flow).length : Nat)])) := fun b o e _ => s4 b o e
            refine k1 _ l (fp a B) (.op ((Z.same s4).same fun b o e => by rw [upd_ne (ne_of_none e hl)]; exact e)) ?_ (k4.new hl) (fun b hb => .inl hb) (k4.far hl) (fun m => (Z.same s4).tracked m hl) ?_
            · rw [upd_same]
              rfl
            · unfold tell
              rw [List.length_cons, List.length_append]
              unfold Sw14Neutral.ints
              rw [List.length_map, List.length_map]
              dsimp only
              rw [List.length_nil]
              omega
    · -- ways
      refine iteF ?_
      refine ⟨_, rfl, rfl, _, rfl, iteF ?_⟩
      refine ⟨_, rfl, rfl, _, rfl, iteF ?_⟩
      refine ⟨_, rfl, rfl, _, rfl, iteF ?_⟩
      cases Z with
      | new h => obtain ⟨e, _⟩ := hopen rfl; exact absurd e (by decide)
      | @op B sx kv Z =>
        have es : Sw14Neutral.step (some sx) [[5, y, z]] = ((Sw14.worked (some sx) (.ways y z)).1, tell (Sw14.worked (some sx) (.ways y z)).2) := step_of rfl
        have ew : Sw14.worked (some sx) (.ways y z) = if Sw14.two sx.net y z = false then (some sx, Sw14.says (-2)) else (some sx, Sw14.says (Sw14.sentOf (Sw14.thin sx.net) y.toNat z.toNat (2 ^ 64)).2) := rfl
        refine ⟨_, rfl, a, B.dx, _, rfl, Z.obj, by rfl, _, rfl, ln, _, _, _, rfl, rfl, SqL.of hln, at0 (i := 0) rfl, _, rfl, ln, _, _, _, rfl, rfl, SqL.of hln, at0 (i := 1) rfl, a, B, sx, kv, y, z, rfl, Z, fun two H2 s2 => ?_, fun two => k2 ?_⟩
        · rw [if_neg (by rw [two_iff.mpr two]; decide)] at ew
          rw [ew] at es
          rw [es] at k1
          refine ⟨(by show 1 ≤ sizeLine; decide), fun l hl => ?_⟩
          have k4 : Kp (fp a B) H H2 := fun b o e _ => s2 b o e
          exact k1 _ l (fp a B) (.op ((Z.same s2).same fun b o e => by rw [upd_ne (ne_of_none e hl)]; exact e)) upd_same (k4.new hl) (fun b hb => .inl hb) (k4.far hl) (fun m => (Z.same s2).tracked m hl) (by show 1 ≤ 300; decide)
        · have e : Sw14.two sx.net y z = false := by
            cases q : Sw14.two sx.net y z with
            | false => rfl
            | true => exact absurd (two_iff.mp q) two
          rw [es, ew, if_pos e]
          rfl
end
end Px
set_option Elab.async false
set_option linter.all false
set_option maxRecDepth 100000
set_option maxHeartbeats 2000000
namespace Px
open PySem PySem.Spec PyProof.Rows L2
open Sw14 (Pipe Net Right)
/-! ### answer_or_refusal -/
def spAor (Cn Cf Cr : Addr) : Sp := fun vs H Q _ => ∃ (a ln : Addr) (c : Int) (xs : List Int) (s : Option Sw14.St) (F : List Addr), vs = [.ref a, .int c, .ref ln] ∧ H ln = some (.lst (nI xs)) ∧ Sw14Neutral.asked1 [c :: xs] = true ∧ NetS Cn Cf Cr H a s F ∧ (s = none → Opens c xs) ∧
  ∀ (H' : Hp) (l : Addr) (F' : List Addr), NetS Cn Cf Cr H' a (Sw14Neutral.step s [c :: xs]).1 F' → H' l = some (.lst (nI (Sw14Neutral.step s [c :: xs]).2)) → Kp F H H' → (∀ b, b ∈ F' → b ∈ F ∨ H b = none) → (∀ b, H b ≠ none → b ∉ F → b ≠ l) → l ∉ F' → (Sw14Neutral.step s [c :: xs]).2.length ≤ 300 → Q (.ref l) H'
theorem scAor : FnScope ["net", "call", "numbers"] ["net", "call", "numbers"] (defScope sAor) := ⟨rfl, rfl, rfl, by decide +kernel, rfl, by decide +kernel, by decide +kernel⟩
/-- the three errors' classes, told apart -/
structure T3 (K : PySem.W.Frag) (mg : Str → Option Value) (Co Cfu Cw : Addr) : Prop where
  m1 : mg "OutOfRange" = some (.ref Co)
  m2 : mg "NetFull" = some (.ref Cfu)
  m3 : mg "NoWallKnown" = some (.ref Cw)
  e11 : PySem.W.exmOne K (.ref Co) (.ref Co) = some true
  e21 : PySem.W.exmOne K (.ref Cfu) (.ref Co) = some false
  e22 : PySem.W.exmOne K (.ref Cfu) (.ref Cfu) = some true
  e31 : PySem.W.exmOne K (.ref Cw) (.ref Co) = some false
  e32 : PySem.W.exmOne K (.ref Cw) (.ref Cfu) = some false
  e33 : PySem.W.exmOne K (.ref Cw) (.ref Cw) = some true
section
variable {P : Program} {w : World} {K : PySem.W.Frag} {mg : Str → Option Value} {base : Heap}
theorem ok_aor {f Cn Cf Cr Co Cfu Cw : Addr} {fd : FuncData} (F : Fun K "answer_or_refusal" "answer_or_refusal" sAor f fd) (T : T3 K mg Co Cfu Cw)
    (GA : GF P w K mg base (CXE P w) 7 "answer_of" ["net", "call", "numbers"] (spAof Cn Cf Cr Co Cfu Cw)) :
    FnOk P w K mg base CX0 8 f fd ["net", "call", "numbers"] (spAor Cn Cf Cr) := by
  obtain ⟨fA, fdA, GA, bA, mA, kA⟩ := GA
  refine F.ok scAor (fun vs H Q E h => ?_) (fun cdv A outer s H vs Q E hr h => ?_)
  · obtain ⟨a, ln, c, xs, s, F, rfl, _⟩ := h
    rfl
  · obtain ⟨a, ln, c, xs, st, Fo, rfl, hln, hask, Z, hopen, k⟩ := h
    refine ⟨_, pss_one (ps_try (tb := fun E => tRet (tCall (spAof Cn Cf Cr Co Cfu Cw) [] E (tCons (tVar 0) (tCons (tVar 1) (tCons (tVar 2) tNil))))) rfl rfl
      (fun pn xe E hp => pss_one (ps_ret (pe_call GA hr rfl mA kA bA .nil hp (pa_cons (pv 0) (pa_cons (pv 1) (pa_cons (pv 2) pa_nil))))))
      rfl rfl rfl T.m1 T.m2 T.m3 T.e11 T.e21 T.e22 T.e31 T.e32 T.e33
      (fun e => pss_one (ps_ret (pe_lst (pa_cons (pe_un un_neg pe_int) pa_nil)))) (fun e => pss_one (ps_ret (pe_lst (pa_cons (pe_un un_neg pe_int) pa_nil)))) (fun e => pss_one (ps_ret (pe_lst (pa_cons (pe_un un_neg pe_int) pa_nil))))), ?_⟩
    have fin : ∀ u : Int, Sw14Neutral.step st [c :: xs] = (st, [u]) → ∀ (σ : L2.St), ∀ l, H l = none → Q (.ref l) (upd H l (.lst [V.int u])) := fun u es σ l hl => by
      rw [es] at k
      have kp : Kp Fo H (upd H l (.lst [V.int u])) := (Kp.refl H).new hl
      exact k _ l Fo (Z.keep fun b o e _ => by rw [upd_ne (ne_of_none e hl)]; exact e) upd_same kp (fun b hb => .inl hb) (fun b hb nb e => hb (e ▸ hl)) (fun m => Z.tracked m hl) (by show 1 ≤ 300; decide)
    refine ⟨_, rfl, _, rfl, _, rfl, a, ln, c, xs, st, Fo, rfl, hln, hask, Z, hopen, fun es σ => .inl ⟨rfl, ?_⟩, fun es => ⟨fun σ => .inr (.inl ⟨rfl, ?_⟩), fun σ => .inr (.inr ⟨rfl, ?_⟩)⟩, fun H' l F' h1 h2 h3 h4 h5 h6 h7 => k H' l F' h1 h2 h3 h4 h5 h6 h7⟩
    · exact ⟨_, rfl, (by show 1 ≤ sizeLine; decide), fin (-2) es σ⟩
    · exact ⟨_, rfl, (by show 1 ≤ sizeLine; decide), fin (-1) es σ⟩
    · exact ⟨_, rfl, (by show 1 ≤ sizeLine; decide), fin (-1) es σ⟩
end
/-! ### SIZES -/
def sz (c : Int) : Int := if c = 1 then 1 else if c = 2 then 4 else if c = 3 then 3 else 2
def chk (e : DictEntry) (k v : Int) : Bool := (e.hash == hashInt k) && (match e.key with | .int i _ => i == k | _ => false) && (match e.val with | .int i _ => i == v | _ => false)
def sizesOk : List DictEntry → Bool
  | [e1, e2, e3, e4, e5] => chk e1 1 1 && (chk e2 2 4 && (chk e3 3 3 && (chk e4 4 2 && chk e5 5 2)))
  | _ => false
theorem chk_of {e : DictEntry} {k v : Int} (h : chk e k v = true) : e.hash = hashInt k ∧ (∃ t, e.key = .int k t) ∧ ∃ t, e.val = .int v t := by
  unfold chk at h
  simp only [Bool.and_eq_true, beq_iff_eq] at h
  obtain ⟨⟨h1, h2⟩, h3⟩ := h
  refine ⟨h1, ?_, ?_⟩
  · split at h2
    · rename_i i t e; rw [beq_iff_eq] at h2; exact ⟨t, by rw [e, h2]⟩
    · cases h2
  · split at h3
    · rename_i i t e; rw [beq_iff_eq] at h3; exact ⟨t, by rw [e, h3]⟩
    · cases h3
structure TZ (K : PySem.W.Frag) (mg : Str → Option Value) (D : Addr) : Prop where
  mgd : mg "SIZES" = some (.ref D)
  obj : ∃ es ep, K.lookup D = some ⟨.type "dict", none, .dict es ep, #[]⟩ ∧ sizesOk es.toList = true
theorem sizes_map {P : Program} {w : World} {es : Array DictEntry} (h : sizesOk es.toList = true) : PySem.KeysOf (PySem.intKind P w) es ∧ ∀ c : Int, 1 ≤ c → c ≤ 5 → ∃ t, findBy (PySem.intKind P w).is es c = some (.int (sz c) t) := by
  obtain ⟨l⟩ := es
  dsimp only at h
  unfold sizesOk at h
  split at h
  · rename_i e1 e2 e3 e4 e5
    simp only [Bool.and_eq_true] at h
    obtain ⟨h1, h2, h3, h4, h5⟩ := h
    obtain ⟨a1, ⟨t1, b1⟩, ⟨u1, c1⟩⟩ := chk_of h1
    obtain ⟨a2, ⟨t2, b2⟩, ⟨u2, c2⟩⟩ := chk_of h2
    obtain ⟨a3, ⟨t3, b3⟩, ⟨u3, c3⟩⟩ := chk_of h3
    obtain ⟨a4, ⟨t4, b4⟩, ⟨u4, c4⟩⟩ := chk_of h4
    obtain ⟨a5, ⟨t5, b5⟩, ⟨u5, c5⟩⟩ := chk_of h5
    have is : ∀ (k i : Int) (t : Tok), (PySem.intKind P w).is k (.int i t) = decide (k = i) := fun k i t => by
      show Value.isInt k (.int i t) = _
      unfold Value.isInt
      by_cases e : k = i
      · subst e; simp
      · rw [decide_eq_false e]; simpa using fun q => e q.symm
    refine ⟨fun e he => ?_, fun c hc1 hc2 => ?_⟩
    · simp at he
      rcases he with rfl | rfl | rfl | rfl | rfl
      · exact ⟨1, by rw [b1, is]; rfl, a1⟩
      · exact ⟨2, by rw [b2, is]; rfl, a2⟩
      · exact ⟨3, by rw [b3, is]; rfl, a3⟩
      · exact ⟨4, by rw [b4, is]; rfl, a4⟩
      · exact ⟨5, by rw [b5, is]; rfl, a5⟩
    · unfold findBy
      rw [List.find?_toArray]
      simp only [List.find?_cons, b1, b2, b3, b4, b5, is]
      rcases (by omega : c = 1 ∨ c = 2 ∨ c = 3 ∨ c = 4 ∨ c = 5) with rfl | rfl | rfl | rfl | rfl
      · exact ⟨u1, by simp [c1, sz]⟩
      · exact ⟨u2, by simp [c2, sz]⟩
      · exact ⟨u3, by simp [c3, sz]⟩
      · exact ⟨u4, by simp [c4, sz]⟩
      · exact ⟨u5, by simp [c5, sz]⟩
  · cases h
def tSize (ty : TE) : TE := fun σ H Q => ty σ H fun y H1 => ∃ c, y = .int c ∧ 1 ≤ c ∧ c ≤ 5 ∧ Q (.int (sz c)) H1
theorem pe_size {X : Cx} {D : Addr} {i : Expr} {p pos : Pos} {ty : TE} (T : TZ X.K X.mg D) (hg : Gl X "SIZES") (hi : PE X i ty) (hs : NoSl i) : PE X (.Subscript (.Name "SIZES" p) i pos) (tSize ty) := by
  intro pins s σ H Q I h
  obtain ⟨es, ep, lk, ok⟩ := T.obj
  obtain ⟨m1, m2⟩ := sizes_map (P := X.prog) (w := X.w) ok
  refine subD_of PySem.F.slot_dict_getitem.lookup hs (ld_glob I hg T.mgd (thn (hi pins s σ H _ I h) fun iv s2 ⟨y, H2, I2, ry, c, ey, h1, h2, q⟩ => ?_))
  subst ey
  obtain ⟨t, rfl⟩ := ry
  have go := I2.kIn _ _ lk
  have hm : s2.heap.MapOf (PySem.intKind X.prog X.w) D (fun k => findBy (PySem.intKind X.prog X.w).is es k) := ⟨_, es, ep, go, ⟨rfl, rfl, rfl⟩, rfl, m1, fun _ => rfl⟩
  obtain ⟨u, hu⟩ := m2 c h1 h2
  refine ⟨hm.typeIs, wpAny_getItem_of (k := c) ?_ hm hu ⟨.int (sz c), H2, I2.tok _, ⟨u, rfl⟩, q⟩⟩
  show Value.isInt c (.int c t) = true
  unfold Value.isInt; simp
end Px
set_option Elab.async false
set_option linter.all false
set_option maxRecDepth 100000
set_option maxHeartbeats 2000000
namespace Px
open PySem PySem.Spec PyProof.Rows L2
/-! ### the calls as one list -/
theorem whole_id (c : List (List Int)) : PySw14.whole c = c := by
  unfold PySw14.whole
  split <;> rfl
theorem shape_sz {p : Int} {n k : Nat} (h : PySw14.shape p = some (n, k)) : k = 0 ∧ (n : Int) = sz p ∧ 1 ≤ p ∧ p ≤ 5 := by
  unfold PySw14.shape at h
  unfold sz
  split at h
  · rename_i e; subst e; simp at h; simp [← h.1, ← h.2]
  · split at h
    · rename_i e; subst e; simp at h; simp [← h.1, ← h.2]
    · split at h
      · rename_i e; subst e; simp at h; simp [← h.1, ← h.2]
      · split at h
        · rename_i e; subst e; simp at h; simp [← h.1, ← h.2]
        · split at h
          · rename_i e; subst e; simp at h; simp [← h.1, ← h.2]
          · cases h
theorem calls_nil {f : Nat} {cs : List (List (List Int))} (h : PyFlat.calls PySw14.shape f [] = some cs) : cs = [] := by
  cases f <;> (simp [PyFlat.calls] at h; exact h)
theorem calls_cons {f : Nat} {p : Int} {r : List Int} {cs : List (List (List Int))} (h : PyFlat.calls PySw14.shape f (p :: r) = some cs) :
    ∃ (n f' : Nat) (cs' : List (List (List Int))), (n : Int) = sz p ∧ 1 ≤ p ∧ p ≤ 5 ∧ n ≤ r.length ∧ cs = [p :: r.take n] :: cs' ∧ PyFlat.calls PySw14.shape f' (r.drop n) = some cs' := by
  cases f with
  | zero => simp [PyFlat.calls] at h
  | succ f =>
    unfold PyFlat.calls at h
    unfold PyFlat.call at h
    dsimp only at h
    cases e : PySw14.shape p with
    | none => rw [e] at h; cases h
    | some x =>
      obtain ⟨n, k⟩ := x
      rw [e] at h
      dsimp only at h
      obtain ⟨rfl, h1, h2, h3⟩ := shape_sz e
      by_cases hl : r.length < n
      · rw [if_pos hl] at h; cases h
      · rw [if_neg hl] at h
        unfold PyFlat.rows at h
        dsimp only at h
        cases e2 : PyFlat.calls PySw14.shape f (r.drop n) with
        | none => rw [e2] at h; cases h
        | some cs' =>
          rw [e2] at h
          exact ⟨n, f, cs', h1, h2, h3, by omega, (Option.some.inj h).symm, e2⟩
def outOf (s : Sw14Neutral.S) (cs : List (List (List Int))) : List Int := PyFlat.told (PyFlat.played Sw14Neutral.step s cs)
theorem outOf_cons (s : Sw14Neutral.S) (c : List (List Int)) (cs : List (List (List Int))) : outOf s (c :: cs) = (((Sw14Neutral.step s c).2.length : Int) :: (Sw14Neutral.step s c).2) ++ outOf (Sw14Neutral.step s c).1 cs := rfl
theorem answers_of {ns : List Int} (h : PySw14.answers_asked ns = true) : ∃ cs, PyFlat.calls PySw14.shape ns.length ns = some cs ∧ PySw14.answers ns = outOf none cs ∧ cs.length ≤ 400 ∧ (∀ c, c ∈ cs → Sw14Neutral.asked1 c = true) ∧ ∃ p rest, cs = [[1, p]] :: rest ∧ 2 ≤ p ∧ p ≤ 256 := by
  unfold PySw14.answers_asked at h
  have ec : PySw14.calls ns = PyFlat.calls PySw14.shape ns.length ns := by
    unfold PySw14.calls
    cases e : PyFlat.calls PySw14.shape ns.length ns with
    | none => rfl
    | some cs =>
      show some (cs.map PySw14.whole) = some cs
      have : cs.map PySw14.whole = cs := by
        rw [List.map_congr_left (g := id) (fun c _ => whole_id c), List.map_id]
      rw [this]
  rw [ec] at h
  cases e : PyFlat.calls PySw14.shape ns.length ns with
  | none => rw [e] at h; cases h
  | some cs =>
    rw [e] at h
    dsimp only at h
    simp only [Bool.and_eq_true, Sw14Neutral.asked, List.all_eq_true, decide_eq_true_eq] at h
    refine ⟨cs, rfl, ?_, h.2.2.1, h.2.1, ?_⟩
    · unfold PySw14.answers
      rw [ec, e]
      rfl
    · have h3 := h.2.2.2
      split at h3
      · rename_i p rest
        simp only [Bool.and_eq_true, decide_eq_true_eq] at h3
        exact ⟨p, rest, rfl, h3.1, h3.2⟩
      · cases h3
theorem step_ne {st : Option Sw14.St} {p : Int} {xs : List Int} (ha : Sw14Neutral.asked1 [p :: xs] = true) (ho : st = none → Opens p xs) : (Sw14Neutral.step st [p :: xs]).1 ≠ none := by
  have sm : ∀ (s : Sw14.St) (x : Sw14.Call), (Sw14.worked (some s) x).1 ≠ none := fun s x => by
    cases x <;> simp only [Sw14.worked] <;> repeat' split
    all_goals simp
  cases st with
  | none =>
    obtain ⟨rfl, z, rfl, h1, h2⟩ := ho rfl
    rw [step_of (x := .open_ z) rfl, w_open, if_pos ⟨h1, h2⟩]
    simp
  | some s =>
    unfold Sw14Neutral.step
    cases Sw14Neutral.callOf [p :: xs] with
    | none => simp
    | some x => exact sm s x
/-! ### answers -/
def spAns (K : PySem.W.Frag) : Sp := fun vs H Q _ => ∃ (ca : Addr) (ns : List Int), vs = [.ref ca] ∧ SqL K H ca (nI ns) ∧ ns.length ≤ 16000 ∧ PySw14.answers_asked ns = true ∧ ∀ (H' : Hp) (p : Addr), H' p = some (.lst (nI (PySw14.answers ns))) → Q (.ref p) H'
theorem scAns : FnScope ["calls", "net", "given", "at", "behind", "answer"] ["calls"] (defScope sAns) := ⟨rfl, rfl, rfl, by decide +kernel, rfl, by decide +kernel, by decide +kernel⟩
section
variable {P : Program} {w : World} {K : PySem.W.Frag} {mg : Str → Option Value} {base : Heap}
theorem cut_mid (ns : List Int) (k n : Nat) (h : k + 1 + n ≤ ns.length) : cutV (nI ns) (some ((k : Int) + 1)) (some ((k : Int) + 1 + (n : Int))) = nI ((ns.drop (k + 1)).take n) := by
  have e1 : (k : Int) + 1 = ((k + 1 : Nat) : Int) := by omega
  have e2 : (k : Int) + 1 + (n : Int) = ((k + 1 + n : Nat) : Int) := by omega
  rw [e2, e1]
  unfold cutV
  rw [HT.sIx_nat, HT.sIx_nat]
  unfold nI
  rw [List.length_map, Nat.min_eq_left (by omega), Nat.min_eq_left (by omega), List.map_take, List.map_drop, show k + 1 + n - (k + 1) = n by omega]
theorem ok_ans {f Cn Cf Cr D : Addr} {fd : FuncData} (F : Fun K "answers" "answers" sAns f fd) (TBb : TB mg) (Tz : TZ K mg D)
    (GI : IF P w K mg base CX0 1 "Net" Cn ["self"] (spNetI Cn)) (GA : GF P w K mg base CX0 8 "answer_or_refusal" ["net", "call", "numbers"] (spAor Cn Cf Cr)) :
    FnOk P w K mg base CX0 9 f fd ["calls"] (spAns K) := by
  obtain ⟨fI, fdI, GI, bI, mI, gI⟩ := GI
  obtain ⟨fA, fdA, GA, bA, mA, kA⟩ := GA
  refine F.ok scAns (fun vs H Q E h => ?_) (fun cdv A outer s H vs Q E hr h => ?_)
  · obtain ⟨ca, ns, rfl, _⟩ := h
    rfl
  · obtain ⟨ca, ns, rfl, hS, hlen, hask, k⟩ := h
    have nd := scAns.nd
    have hr2 : Room 2 _ := hr.mono (by decide)
    refine ⟨_, pss_cons (ps_set (i := 1) nd rfl (Or.inl rfl) (pe_make0 mI GI hr2 rfl gI bI .nil pass0))
      (pss_cons (ps_set (i := 2) nd rfl (Or.inl rfl) (pe_lst pa_nil))
      (pss_cons (ps_set (i := 3) nd rfl (Or.inl rfl) pe_int)
      (pss_cons (ps_while PassesOwn.never (pt_cmpR op_lt (pv 3) (pe_callB call_len_seq (by rfl) TBb.len PySem.boot_len (pa_cons (pv 0) pa_nil)) (nomark _))
        (pss_cons (ps_set (i := 4) nd rfl (Or.inl rfl) (pe_op op_add (pe_op op_add (pv 3) pe_int) (pe_size Tz rfl (pe_ix ix_list (pv 0) (pv 3) (fun _ _ => rfl)) (fun _ _ => rfl))))
        (pss_cons (ps_set (i := 5) nd rfl (Or.inl rfl) (pe_call GA hr rfl mA kA bA .nil pass0 (pa_cons (pv 1) (pa_cons (pe_ix ix_list (pv 0) (pv 3) (fun _ _ => rfl)) (pa_cons (pe_slice sl_list (pv 0) (po_some (pe_op op_add (pv 3) pe_int)) (po_some (pv 4))) pa_nil)))))
        (pss_cons (ps_expr (pe_bm PySem.F.plainAttrs_list PySem.F.slot_list_append PySem.F.type_list_append mt_append (pv 2) (pa_cons (pe_callB call_len_seq (by rfl) TBb.len PySem.boot_len (pa_cons (pv 5) pa_nil)) pa_nil)))
        (pss_cons (ps_expr (pe_bm PySem.F.plainAttrs_list PySem.F.slot_list_extend PySem.F.type_list_extend mt_extend (pv 2) (pa_cons (pv 5) pa_nil)))
        (pss_one (ps_set (i := 3) nd rfl (Or.inl rfl) (pv 4))))))))
      (pss_one (ps_ret (pv 2)))))), ?_⟩
    obtain ⟨cs, ecs, eans, hcl, hall, p0, rest0, ecs0, hp0, hp0'⟩ := answers_of hask
    rw [eans] at k
    -- net = Net()
    intro a da na nda nea
    generalize eH1 : upd (upd H da (.own a)) a (.ins Cn da []) = H1
    have s1 : Same H H1 := fun b o e => by rw [← eH1, upd_ne (ne_of_none e na), upd_ne (ne_of_none e nda)]; exact e
    have a1 : H1 a = some (.ins Cn da []) := by rw [← eH1]; exact upd_same
    refine ⟨a, da, rfl, a1, fun H2 lp0 a2 kp2 => ⟨rfl, ?_⟩⟩
    have s2 : Same H H2 := fun b o e => kp2 b o (s1 b o e) (fun z => by simp at z; rw [z, na] at e; cases e)
    refine ⟨Nat.zero_le _, fun lg hlg => ?_⟩
    have glH : H lg = none := s2.free hlg
    have nag : a ≠ lg := ne_of_none a2 hlg
    generalize eH3 : upd H2 lg _ = H3
    have s3 : Same H H3 := fun b o e => by rw [← eH3, upd_ne (ne_of_none e glH)]; exact s2 b o e
    have a3 : H3 a = some (.ins Cn da (nf 0 lp0 .non)) := by rw [← eH3, upd_ne nag]; exact a2
    have g3 : H3 lg = some (.lst (nI [])) := by rw [← eH3]; exact upd_same
    obtain ⟨W, hW⟩ : ∃ W : Nat → L2.St → Hp → Prop, ∀ m σ H', W m σ H' ↔ ∃ (v4 v5 : Option V) (kk f : Nat) (cs' : List (List (List Int))) (st : Option Sw14.St) (Fp : List Addr) (gv : List Int), m = ns.length - kk ∧ kk ≤ ns.length ∧ σ = [some (.ref ca), some (.ref a), some (.ref lg), some (.int kk), v4, v5] ∧
        PyFlat.calls PySw14.shape f (ns.drop kk) = some cs' ∧ (∀ c, c ∈ cs' → Sw14Neutral.asked1 c = true) ∧ NetS Cn Cf Cr H' a st Fp ∧ (st = none → ∃ p rest, cs' = [[1, p]] :: rest ∧ 2 ≤ p ∧ p ≤ 256) ∧
        H' lg = some (.lst (nI gv)) ∧ lg ∉ Fp ∧ (∀ b, b ∈ Fp → H b = none) ∧ Same H H' ∧ outOf none cs = gv ++ outOf st cs' ∧ gv.length + 301 * cs'.length ≤ 301 * 400 := ⟨_, fun _ _ _ => Iff.rfl⟩
    refine ⟨W, ⟨_, (hW _ _ _).mpr ⟨none, none, 0, ns.length, cs, none, [a], [], rfl, Nat.zero_le _, rfl, ecs, hall, .new a3, fun _ => ⟨p0, rest0, ecs0, hp0, hp0'⟩, g3, by simpa using Ne.symm nag, fun b hb => (by simp at hb; rw [hb]; exact na), s3, rfl, by simp; omega⟩⟩, ?_⟩
    intro m σ H' hw
    obtain ⟨v4, v5, kk, f', cs', st, Fp, gv, rfl, hkk, rfl, ec, hask', Z, hop, hg, ngF, hF, sm, eo, hgl⟩ := (hW _ _ _).mp hw
    have hS' := sm.seq hS
    refine ⟨_, rfl, _, rfl, ca, _, rfl, .inl hS', _, _, rfl, rfl, _, rfl, ite2 (fun c => ?_) (fun c => ?_)⟩
    · have c := of_decide_eq_true c
      have hlt : kk < ns.length := by simpa [nI] using c
      refine ⟨fun σ' H'' => ∃ m', m' < ns.length - kk ∧ W m' σ' H'', fun _ _ z => z, ?_⟩
      have ed : ns.drop kk = ns[kk] :: ns.drop (kk + 1) := List.drop_eq_getElem_cons hlt
      have ek : ns[kk]? = some ns[kk] := List.getElem?_eq_getElem hlt
      rw [ed] at ec
      generalize ns[kk] = p at ed ek ec
      obtain ⟨n, f2, cs2, hn, hp1, hp2, hnr, ecs2, ec2⟩ := calls_cons ec
      subst ecs2
      rw [List.length_drop] at hnr
      have ak : atI (nI ns) (kk : Int) = some (V.int p) := at_of rfl (by rw [List.getElem?_map, ek]; rfl)
      -- behind
      refine ⟨_, rfl, _, _, rfl, rfl, _, rfl, _, rfl, ca, _, _, _, rfl, rfl, hS', ak, p, rfl, hp1, hp2, _, _, rfl, rfl, ?_⟩
      dsimp only
      rw [← hn]
      -- answer
      refine ⟨_, rfl, _, rfl, _, rfl, ca, _, _, _, rfl, rfl, hS', ak, _, rfl, _, rfl, _, _, rfl, rfl, _, rfl, _, rfl, _, rfl, ca, _, rfl, hS', fun lnn hlnn => ?_⟩
      rw [cut_mid ns kk n (by omega)]
      generalize exs : (ns.drop (kk + 1)).take n = xs at *
      generalize eH5 : upd H' lnn _ = H5
      have k5 : Same H' H5 := fun b o e => by rw [← eH5, upd_ne (ne_of_none e hlnn)]; exact e
      have hln : H5 lnn = some (.lst (nI xs)) := by rw [← eH5]; exact upd_same
      have hop2 : st = none → Opens p xs := fun e => by
        obtain ⟨z, rest, ez, z1, z2⟩ := hop e
        injection ez with ez _
        injection ez with ez _
        injection ez with ez1 ez2
        exact ⟨ez1, z, ez2, z1, z2⟩
      refine ⟨a, lnn, p, xs, st, Fp, rfl, hln, hask' _ (by simp), Z.keep fun b o e _ => k5 b o e, hop2, fun H4 l F' Z4 h4 kp4 fr4 far4 nl4 len4 => ?_⟩
      have est := step_ne (hask' _ (by simp)) hop2
      have eo2 := outOf_cons st [p :: xs] cs2
      generalize eS : Sw14Neutral.step st [p :: xs] = S at *
      obtain ⟨st', ans⟩ := S
      dsimp only at Z4 h4 len4 est eo2
      have g5 : H5 lg = some (.lst (nI gv)) := k5 _ _ hg
      have g4 : H4 lg = some (.lst (nI gv)) := kp4 _ _ g5 ngF
      have lgl : lg ≠ l := far4 lg (by rw [g5]; simp) ngF
      have sm4 : Same H H4 := fun b o e => kp4 b o (k5 b o (sm b o e)) (fun m => by rw [hF b m] at e; cases e)
      have glH4 : lg ∉ F' := fun m => (fr4 lg m).elim ngF (fun e => by rw [g5] at e; cases e)
      rw [List.length_cons] at hgl
      refine ⟨_, rfl, tyL g4, _, rfl, l, _, rfl, .inl (SqL.of h4), lg, _, _, rfl, rfl, g4, ?_, ?_⟩
      · show (nI gv).length < sizeLine
        have : (nI gv).length = gv.length := by simp [nI]
        rw [this]
        exact Nat.lt_of_le_of_lt (by omega : gv.length ≤ 301 * 400) (by decide)
      · generalize eH6 : upd H4 lg _ = H6
        have l6 : H6 l = some (.lst (nI ans)) := by rw [← eH6, upd_ne (Ne.symm lgl)]; exact h4
        have g6 : H6 lg = some (.lst (nI gv ++ [V.int ((nI ans).length : Int)])) := by rw [← eH6]; exact upd_same
        refine ⟨_, rfl, tyL g6, _, rfl, lg, l, _, _, rfl, rfl, g6, l6, ?_, _, rfl, ?_⟩
        · show (nI gv ++ [V.int ((nI ans).length : Int)]).length + (nI ans).length ≤ sizeLine
          have : (nI gv ++ [V.int ((nI ans).length : Int)]).length + (nI ans).length = gv.length + 1 + ans.length := by simp [nI]
          rw [this]
          exact Nat.le_trans (by omega : gv.length + 1 + ans.length ≤ 301 * 400) (by decide)
        · refine ⟨ns.length - (kk + 1 + n), by omega, (hW _ _ _).mpr ⟨some (.int ((kk : Int) + 1 + (n : Int))), some (.ref l), kk + 1 + n, f2, cs2, st', F', gv ++ ((ans.length : Int) :: ans), rfl, by omega, ?_, ?_, fun c hc => hask' c (by simp [hc]), ?_, fun e => absurd e est, ?_, glH4, ?_, ?_, ?_, ?_⟩⟩
          · have e : ((kk + 1 + n : Nat) : Int) = (kk : Int) + 1 + (n : Int) := by omega
            rw [e]
            rfl
          · rw [← List.drop_drop]; exact ec2
          · exact Z4.keep fun b o e m => by
              have nb : b ≠ lg := fun z => glH4 (z ▸ m)
              rw [upd_ne nb, ← eH6, upd_ne nb]; exact e
          · rw [upd_same]
            simp [nI]
          · intro b m
            rcases fr4 b m with m | m
            · exact hF b m
            · exact (sm.trans k5).free m
          · intro b o e
            have nb : b ≠ lg := fun z => by rw [z, glH] at e; cases e
            rw [upd_ne nb, ← eH6, upd_ne nb]; exact sm4 b o e
          · rw [eo, eo2, List.append_assoc]
          · simp only [List.length_append, List.length_cons]
            omega
    · have c : ¬ ((kk : Int) < ((nI ns).length : Int)) := fun z => c (decide_eq_true z)
      have he : kk = ns.length := by simp [nI] at c; omega
      subst he
      rw [List.drop_length] at ec
      have := calls_nil ec
      subst this
      have e2 : outOf st [] = [] := rfl
      rw [e2, List.append_nil] at eo
      rw [eo] at k
      exact ⟨_, rfl, k H' lg hg⟩
end
end Px
set_option Elab.async false
set_option linter.all false
set_option maxRecDepth 100000
set_option maxHeartbeats 2000000
namespace Px
open PySem PySem.Spec PyProof.Rows L2
/-! ### what the top has written -/
def DK (K : PySem.W.Frag) (x qual : Str) (st : Stmt) (f : Addr) : Prop := ∃ fd, Fun K x qual st f fd
section
variable {P : Program} {w : World} {K : PySem.W.Frag} {mg : Str → Option Value} {base h : Heap}
theorem dk_mk {x qual : Str} {st : Stmt} {f : Addr} {oc : Value} {od an : Option Addr} {osl : Array (Option Value)} {kV doc pm cdv ct : Value} (l : K.lookup f = some ⟨oc, od, .func (PySem.W.fnOf x qual (defArgs st) (defBody st) (defScope st) .none kV doc pm an cdv ct), osl⟩)
    (c : PySem.W.codeIn K cdv qual = true) (k : PySem.W.keepIn K (.ref f) = true) : DK K x qual st f := ⟨_, fun_mk l c k⟩
def BA (x qual : Str) (st : Stmt) (ps : List Str) : Prop := ∀ (kV doc pm : Value) (an : Option Addr) (cdv ct : Value) (us : List Value), us.length = ps.length → bindArgs (PySem.W.fnOf x qual (defArgs st) (defBody st) (defScope st) .none kV doc pm an cdv ct) ⟨us, []⟩ = pure (ps.zip us)
theorem gf_of {CX : CXT} {k : Nat} {x qual : Str} {st : Stmt} {f : Addr} {ps : List Str} {sp : Sp} (X : K.In h) (G : h.Ns mainGlobals mg) (n : PySem.W.nsIn K mainGlobals x = some (some (.ref f))) (D : DK K x qual st f) (b : BA x qual st ps)
    (ok : ∀ fd, Fun K x qual st f fd → FnOk P w K mg base CX k f fd ps sp) : GF P w K mg base CX k x ps sp := by
  obtain ⟨fd, F⟩ := D
  exact ⟨f, fd, ok fd F, F.binds b, PySem.W.mg_of X G n, F.kp⟩
theorem mf_of {CX : CXT} {k : Nat} {C : Addr} {x qual : Str} {st : Stmt} {f : Addr} {ps : List Str} {sp : Sp} (n : PySem.W.findIn K (.ref C) x = some (some (.ref f))) (i : PySem.W.isFn K (.ref f) = true) (D : DK K x qual st f) (b : BA x qual st ps)
    (ok : ∀ fd, Fun K x qual st f fd → FnOk P w K mg base CX k f fd ps sp) : MF P w K mg base CX k C x ps sp := by
  obtain ⟨fd, F⟩ := D
  exact ⟨f, fd, ok fd F, F.binds b, ⟨n, i, F.kp⟩⟩
theorem if_of {CX : CXT} {k : Nat} {C : Addr} {x qual : Str} {st : Stmt} {f : Addr} {ps : List Str} {sp : Sp} (X : K.In h) (G : h.Ns mainGlobals mg) (a : PySem.W.nsIn K mainGlobals x = some (some (.ref C))) (m : PySem.W.makesIn K C = true) (kc : PySem.W.keepIn K (.ref C) = true)
    (n : PySem.W.findIn K (.ref C) "__init__" = some (some (.ref f))) (i : PySem.W.isFn K (.ref f) = true) (D : DK K "__init__" qual st f) (b : BA "__init__" qual st ps)
    (ok : ∀ fd, Fun K "__init__" qual st f fd → FnOk P w K mg base CX k f fd ps sp) : IF P w K mg base CX k x C ps sp := by
  obtain ⟨fd, F⟩ := D
  exact ⟨f, fd, ok fd F, F.binds b, ⟨m, n, i, kc⟩, PySem.W.mg_of X G a⟩
theorem tx_of {x : Str} {C : Addr} (X : K.In h) (G : h.Ns mainGlobals mg) (a : PySem.W.nsIn K mainGlobals x = some (some (.ref C))) (e : PySem.W.excIn K C [.type "Exception", .type "BaseException", .type "object"] "Exception.__new__" = true) : TX K mg x C :=
  ⟨PySem.W.mg_of X G a, _, _, e, _, _, PySem.F.excBase_Exception⟩
end
theorem all_mk {P : Program} {w : World} {K : PySem.W.Frag} {h : Heap} {mg : Str → Option Value} {fa Cr Cc Cs Cn Cf Co Cfu Cw De f_end f_push f_addL f_rooI f_steps f_cost f_bef f_adv f_short f_fill f_put f_path f_look f_near f_carI f_seaI f_gain f_once f_carry f_range f_place f_ends f_netI f_begin f_lay f_floI f_send f_small f_great f_narrow f_ways f_aof f_aor f_ans : Addr} {tSPAN tGRAIN tFEWEST_PLACES tMOST_PLACES tMOST_PIPES tMOST_HOLDS tMOST_COST tMOST_UNITS tNEW_NET tPIPE tSEND tNARROW : Tok} {es : Array DictEntry} {ep : Nat} (X : K.In h) (G : h.Ns mainGlobals mg) (hfa : mg "answers" = some (.ref fa))
    (h_aRooms : PySem.W.nsIn K mainGlobals "Rooms" = some (some (.ref Cr)))
    (h_pgRooms : PySem.W.plainGet K Cr Str.empty = true)
    (h_hdRooms : PySem.W.hasDictIn K Cr = true)
    (h_poRooms : PySem.W.plainOver K Cr = true)
    (h_saRooms : PySem.W.findIn K (.ref Cr) "__setattr__" = some (some (.builtin "object.__setattr__")))
    (h_mkRooms : PySem.W.makesIn K Cr = true)
    (h_kcRooms : PySem.W.keepIn K (.ref Cr) = true)
    (h_nRoomsplaces : PySem.W.findIn K (.ref Cr) "places" = some none)
    (h_nRoomsheads : PySem.W.findIn K (.ref Cr) "heads" = some none)
    (h_nRoomsroom : PySem.W.findIn K (.ref Cr) "room" = some none)
    (h_nRoomsprices : PySem.W.findIn K (.ref Cr) "prices" = some none)
    (h_nRoomslanes : PySem.W.findIn K (.ref Cr) "lanes" = some none)
    (h_aCarrier : PySem.W.nsIn K mainGlobals "Carrier" = some (some (.ref Cc)))
    (h_pgCarrier : PySem.W.plainGet K Cc Str.empty = true)
    (h_hdCarrier : PySem.W.hasDictIn K Cc = true)
    (h_poCarrier : PySem.W.plainOver K Cc = true)
    (h_saCarrier : PySem.W.findIn K (.ref Cc) "__setattr__" = some (some (.builtin "object.__setattr__")))
    (h_mkCarrier : PySem.W.makesIn K Cc = true)
    (h_kcCarrier : PySem.W.keepIn K (.ref Cc) = true)
    (h_nCarrierrooms : PySem.W.findIn K (.ref Cc) "rooms" = some none)
    (h_nCarrierheights : PySem.W.findIn K (.ref Cc) "heights" = some none)
    (h_nCarrierextra : PySem.W.findIn K (.ref Cc) "extra" = some none)
    (h_aSearch : PySem.W.nsIn K mainGlobals "Search" = some (some (.ref Cs)))
    (h_pgSearch : PySem.W.plainGet K Cs Str.empty = true)
    (h_hdSearch : PySem.W.hasDictIn K Cs = true)
    (h_poSearch : PySem.W.plainOver K Cs = true)
    (h_saSearch : PySem.W.findIn K (.ref Cs) "__setattr__" = some (some (.builtin "object.__setattr__")))
    (h_mkSearch : PySem.W.makesIn K Cs = true)
    (h_kcSearch : PySem.W.keepIn K (.ref Cs) = true)
    (h_nSearchrooms : PySem.W.findIn K (.ref Cs) "rooms" = some none)
    (h_nSearchheights : PySem.W.findIn K (.ref Cs) "heights" = some none)
    (h_nSearchextra : PySem.W.findIn K (.ref Cs) "extra" = some none)
    (h_nSearchportion : PySem.W.findIn K (.ref Cs) "portion" = some none)
    (h_nSearchdistances : PySem.W.findIn K (.ref Cs) "distances" = some none)
    (h_nSearchentries : PySem.W.findIn K (.ref Cs) "entries" = some none)
    (h_nSearchsettled : PySem.W.findIn K (.ref Cs) "settled" = some none)
    (h_nSearchwaiting : PySem.W.findIn K (.ref Cs) "waiting" = some none)
    (h_aNet : PySem.W.nsIn K mainGlobals "Net" = some (some (.ref Cn)))
    (h_pgNet : PySem.W.plainGet K Cn Str.empty = true)
    (h_hdNet : PySem.W.hasDictIn K Cn = true)
    (h_poNet : PySem.W.plainOver K Cn = true)
    (h_saNet : PySem.W.findIn K (.ref Cn) "__setattr__" = some (some (.builtin "object.__setattr__")))
    (h_mkNet : PySem.W.makesIn K Cn = true)
    (h_kcNet : PySem.W.keepIn K (.ref Cn) = true)
    (h_nNetplaces : PySem.W.findIn K (.ref Cn) "places" = some none)
    (h_nNetpipes : PySem.W.findIn K (.ref Cn) "pipes" = some none)
    (h_nNetkept : PySem.W.findIn K (.ref Cn) "kept" = some none)
    (h_aFlow : PySem.W.nsIn K mainGlobals "Flow" = some (some (.ref Cf)))
    (h_pgFlow : PySem.W.plainGet K Cf Str.empty = true)
    (h_hdFlow : PySem.W.hasDictIn K Cf = true)
    (h_poFlow : PySem.W.plainOver K Cf = true)
    (h_saFlow : PySem.W.findIn K (.ref Cf) "__setattr__" = some (some (.builtin "object.__setattr__")))
    (h_mkFlow : PySem.W.makesIn K Cf = true)
    (h_kcFlow : PySem.W.keepIn K (.ref Cf) = true)
    (h_nFlowrooms : PySem.W.findIn K (.ref Cf) "rooms" = some none)
    (h_nFlowstart : PySem.W.findIn K (.ref Cf) "start" = some none)
    (h_nFlowgoal : PySem.W.findIn K (.ref Cf) "goal" = some none)
    (h_nFlowis_fullest : PySem.W.findIn K (.ref Cf) "is_fullest" = some none)
    (h_aOutOfRange : PySem.W.nsIn K mainGlobals "OutOfRange" = some (some (.ref Co)))
    (h_eOutOfRange : PySem.W.excIn K Co [.type "Exception", .type "BaseException", .type "object"] "Exception.__new__" = true)
    (h_aNetFull : PySem.W.nsIn K mainGlobals "NetFull" = some (some (.ref Cfu)))
    (h_eNetFull : PySem.W.excIn K Cfu [.type "Exception", .type "BaseException", .type "object"] "Exception.__new__" = true)
    (h_aNoWallKnown : PySem.W.nsIn K mainGlobals "NoWallKnown" = some (some (.ref Cw)))
    (h_eNoWallKnown : PySem.W.excIn K Cw [.type "Exception", .type "BaseException", .type "object"] "Exception.__new__" = true)
    (h_x0 : PySem.W.exmOne K (.ref Co) (.ref Co) = some true)
    (h_x1 : PySem.W.exmOne K (.ref Cfu) (.ref Co) = some false)
    (h_x2 : PySem.W.exmOne K (.ref Cfu) (.ref Cfu) = some true)
    (h_x3 : PySem.W.exmOne K (.ref Cw) (.ref Co) = some false)
    (h_x4 : PySem.W.exmOne K (.ref Cw) (.ref Cfu) = some false)
    (h_x5 : PySem.W.exmOne K (.ref Cw) (.ref Cw) = some true)
    (h_blen : PySem.W.nsIn K mainGlobals "len" = some none)
    (h_brange : PySem.W.nsIn K mainGlobals "range" = some none)
    (h_bmin : PySem.W.nsIn K mainGlobals "min" = some none)
    (h_bsum : PySem.W.nsIn K mainGlobals "sum" = some none)
    (h_gSPAN : PySem.W.nsIn K mainGlobals "SPAN" = some (some (.int 256 tSPAN)))
    (h_gGRAIN : PySem.W.nsIn K mainGlobals "GRAIN" = some (some (.int 16 tGRAIN)))
    (h_gFEWEST_PLACES : PySem.W.nsIn K mainGlobals "FEWEST_PLACES" = some (some (.int 2 tFEWEST_PLACES)))
    (h_gMOST_PLACES : PySem.W.nsIn K mainGlobals "MOST_PLACES" = some (some (.int 256 tMOST_PLACES)))
    (h_gMOST_PIPES : PySem.W.nsIn K mainGlobals "MOST_PIPES" = some (some (.int 4096 tMOST_PIPES)))
    (h_gMOST_HOLDS : PySem.W.nsIn K mainGlobals "MOST_HOLDS" = some (some (.int 4611686018427387904 tMOST_HOLDS)))
    (h_gMOST_COST : PySem.W.nsIn K mainGlobals "MOST_COST" = some (some (.int 1000000000 tMOST_COST)))
    (h_gMOST_UNITS : PySem.W.nsIn K mainGlobals "MOST_UNITS" = some (some (.int 18446744073709551615 tMOST_UNITS)))
    (h_gNEW_NET : PySem.W.nsIn K mainGlobals "NEW_NET" = some (some (.int 1 tNEW_NET)))
    (h_gPIPE : PySem.W.nsIn K mainGlobals "PIPE" = some (some (.int 2 tPIPE)))
    (h_gSEND : PySem.W.nsIn K mainGlobals "SEND" = some (some (.int 3 tSEND)))
    (h_gNARROW : PySem.W.nsIn K mainGlobals "NARROW" = some (some (.int 4 tNARROW)))
    (h_aSIZES : PySem.W.nsIn K mainGlobals "SIZES" = some (some (.ref De)))
    (h_oSIZES : K.lookup De = some ⟨.type "dict", none, .dict es ep, #[]⟩)
    (h_zSIZES : sizesOk es.toList = true)
    (h_n_end : PySem.W.nsIn K mainGlobals "end_of" = some (some (.ref f_end)))
    (h_d_end : DK K "end_of" "end_of" sEnd f_end)
    (h_n_push : PySem.W.findIn K (.ref Cr) "push" = some (some (.ref f_push)))
    (h_i_push : PySem.W.isFn K (.ref f_push) = true)
    (h_d_push : DK K "push" "Rooms.push" sPush f_push)
    (h_n_addL : PySem.W.findIn K (.ref Cr) "add_lane" = some (some (.ref f_addL)))
    (h_i_addL : PySem.W.isFn K (.ref f_addL) = true)
    (h_d_addL : DK K "add_lane" "Rooms.add_lane" sAddL f_addL)
    (h_n_rooI : PySem.W.findIn K (.ref Cr) "__init__" = some (some (.ref f_rooI)))
    (h_i_rooI : PySem.W.isFn K (.ref f_rooI) = true)
    (h_d_rooI : DK K "__init__" "Rooms.__init__" sRooI f_rooI)
    (h_n_steps : PySem.W.findIn K (.ref Cr) "steps" = some (some (.ref f_steps)))
    (h_i_steps : PySem.W.isFn K (.ref f_steps) = true)
    (h_d_steps : DK K "steps" "Rooms.steps" sSteps f_steps)
    (h_n_cost : PySem.W.findIn K (.ref Cr) "cost" = some (some (.ref f_cost)))
    (h_i_cost : PySem.W.isFn K (.ref f_cost) = true)
    (h_d_cost : DK K "cost" "Rooms.cost" sCost f_cost)
    (h_n_bef : PySem.W.nsIn K mainGlobals "before_full" = some (some (.ref f_bef)))
    (h_d_bef : DK K "before_full" "before_full" sBef f_bef)
    (h_n_adv : PySem.W.nsIn K mainGlobals "advance" = some (some (.ref f_adv)))
    (h_d_adv : DK K "advance" "advance" sAdv f_adv)
    (h_n_short : PySem.W.nsIn K mainGlobals "fill_shortest" = some (some (.ref f_short)))
    (h_d_short : DK K "fill_shortest" "fill_shortest" sShort f_short)
    (h_n_fill : PySem.W.nsIn K mainGlobals "fill" = some (some (.ref f_fill)))
    (h_d_fill : DK K "fill" "fill" sFill f_fill)
    (h_n_put : PySem.W.nsIn K mainGlobals "put_in_order" = some (some (.ref f_put)))
    (h_d_put : DK K "put_in_order" "put_in_order" sPut f_put)
    (h_n_path : PySem.W.findIn K (.ref Cs) "path_to" = some (some (.ref f_path)))
    (h_i_path : PySem.W.isFn K (.ref f_path) = true)
    (h_d_path : DK K "path_to" "Search.path_to" sPath f_path)
    (h_n_look : PySem.W.findIn K (.ref Cs) "look_on" = some (some (.ref f_look)))
    (h_i_look : PySem.W.isFn K (.ref f_look) = true)
    (h_d_look : DK K "look_on" "Search.look_on" sLook f_look)
    (h_n_near : PySem.W.findIn K (.ref Cs) "nearest_lack" = some (some (.ref f_near)))
    (h_i_near : PySem.W.isFn K (.ref f_near) = true)
    (h_d_near : DK K "nearest_lack" "Search.nearest_lack" sNear f_near)
    (h_n_carI : PySem.W.findIn K (.ref Cc) "__init__" = some (some (.ref f_carI)))
    (h_i_carI : PySem.W.isFn K (.ref f_carI) = true)
    (h_d_carI : DK K "__init__" "Carrier.__init__" sCarI f_carI)
    (h_n_seaI : PySem.W.findIn K (.ref Cs) "__init__" = some (some (.ref f_seaI)))
    (h_i_seaI : PySem.W.isFn K (.ref f_seaI) = true)
    (h_d_seaI : DK K "__init__" "Search.__init__" sSeaI f_seaI)
    (h_n_gain : PySem.W.findIn K (.ref Cc) "fill_gainful" = some (some (.ref f_gain)))
    (h_i_gain : PySem.W.isFn K (.ref f_gain) = true)
    (h_d_gain : DK K "fill_gainful" "Carrier.fill_gainful" sGain f_gain)
    (h_n_once : PySem.W.findIn K (.ref Cc) "carry_once" = some (some (.ref f_once)))
    (h_i_once : PySem.W.isFn K (.ref f_once) = true)
    (h_d_once : DK K "carry_once" "Carrier.carry_once" sOnce f_once)
    (h_n_carry : PySem.W.nsIn K mainGlobals "carry_cheapest" = some (some (.ref f_carry)))
    (h_d_carry : DK K "carry_cheapest" "carry_cheapest" sCarry f_carry)
    (h_n_range : PySem.W.nsIn K mainGlobals "check_range" = some (some (.ref f_range)))
    (h_d_range : DK K "check_range" "check_range" sRange f_range)
    (h_n_place : PySem.W.findIn K (.ref Cn) "check_place" = some (some (.ref f_place)))
    (h_i_place : PySem.W.isFn K (.ref f_place) = true)
    (h_d_place : DK K "check_place" "Net.check_place" sPlace f_place)
    (h_n_ends : PySem.W.findIn K (.ref Cn) "check_ends" = some (some (.ref f_ends)))
    (h_i_ends : PySem.W.isFn K (.ref f_ends) = true)
    (h_d_ends : DK K "check_ends" "Net.check_ends" sEnds f_ends)
    (h_n_netI : PySem.W.findIn K (.ref Cn) "__init__" = some (some (.ref f_netI)))
    (h_i_netI : PySem.W.isFn K (.ref f_netI) = true)
    (h_d_netI : DK K "__init__" "Net.__init__" sNetI f_netI)
    (h_n_begin : PySem.W.findIn K (.ref Cn) "begin" = some (some (.ref f_begin)))
    (h_i_begin : PySem.W.isFn K (.ref f_begin) = true)
    (h_d_begin : DK K "begin" "Net.begin" sBegin f_begin)
    (h_n_lay : PySem.W.findIn K (.ref Cn) "lay" = some (some (.ref f_lay)))
    (h_i_lay : PySem.W.isFn K (.ref f_lay) = true)
    (h_d_lay : DK K "lay" "Net.lay" sLay f_lay)
    (h_n_floI : PySem.W.findIn K (.ref Cf) "__init__" = some (some (.ref f_floI)))
    (h_i_floI : PySem.W.isFn K (.ref f_floI) = true)
    (h_d_floI : DK K "__init__" "Flow.__init__" sFloI f_floI)
    (h_n_send : PySem.W.findIn K (.ref Cn) "send" = some (some (.ref f_send)))
    (h_i_send : PySem.W.isFn K (.ref f_send) = true)
    (h_d_send : DK K "send" "Net.send" sSend f_send)
    (h_n_small : PySem.W.findIn K (.ref Cf) "smallest_wall" = some (some (.ref f_small)))
    (h_i_small : PySem.W.isFn K (.ref f_small) = true)
    (h_d_small : DK K "smallest_wall" "Flow.smallest_wall" sSmall f_small)
    (h_n_great : PySem.W.findIn K (.ref Cf) "greatest_wall" = some (some (.ref f_great)))
    (h_i_great : PySem.W.isFn K (.ref f_great) = true)
    (h_d_great : DK K "greatest_wall" "Flow.greatest_wall" sGreat f_great)
    (h_n_narrow : PySem.W.findIn K (.ref Cn) "narrow" = some (some (.ref f_narrow)))
    (h_i_narrow : PySem.W.isFn K (.ref f_narrow) = true)
    (h_d_narrow : DK K "narrow" "Net.narrow" sNarrow f_narrow)
    (h_n_ways : PySem.W.findIn K (.ref Cn) "ways" = some (some (.ref f_ways)))
    (h_i_ways : PySem.W.isFn K (.ref f_ways) = true)
    (h_d_ways : DK K "ways" "Net.ways" sWays f_ways)
    (h_n_aof : PySem.W.nsIn K mainGlobals "answer_of" = some (some (.ref f_aof)))
    (h_d_aof : DK K "answer_of" "answer_of" sAof f_aof)
    (h_n_aor : PySem.W.nsIn K mainGlobals "answer_or_refusal" = some (some (.ref f_aor)))
    (h_d_aor : DK K "answer_or_refusal" "answer_or_refusal" sAor f_aor)
    (h_n_ans : PySem.W.nsIn K mainGlobals "answers" = some (some (.ref f_ans)))
    (h_d_ans : DK K "answers" "answers" sAns f_ans)
    : ∃ fd : FuncData, (∀ (s : Shared) (us : List Value), us.length = (["calls"] : List Str).length → BindsTo s fd ⟨us, []⟩ ((["calls"] : List Str).zip us)) ∧ ∀ base : Heap, K.In base → base.Ns mainGlobals mg → FnOk P w K mg base CX0 9 fa fd ["calls"] (spAns K) := by
  have e := hfa.symm.trans (PySem.W.mg_of X G h_n_ans)
  cases e
  have TR : TRoo K Cr := ⟨⟨h_pgRooms, h_hdRooms, h_poRooms, h_saRooms⟩, h_nRoomsplaces, h_nRoomsheads, h_nRoomsroom, h_nRoomsprices, h_nRoomslanes⟩
  have TC : TCar K Cc := ⟨⟨h_pgCarrier, h_hdCarrier, h_poCarrier, h_saCarrier⟩, h_nCarrierrooms, h_nCarrierheights, h_nCarrierextra⟩
  have TS : TSea K Cs := ⟨⟨h_pgSearch, h_hdSearch, h_poSearch, h_saSearch⟩, h_nSearchrooms, h_nSearchheights, h_nSearchextra, h_nSearchportion, h_nSearchdistances, h_nSearchentries, h_nSearchsettled, h_nSearchwaiting⟩
  have TT : TNet K Cn := ⟨⟨h_pgNet, h_hdNet, h_poNet, h_saNet⟩, h_nNetplaces, h_nNetpipes, h_nNetkept⟩
  have TF : TFlo K Cf := ⟨⟨h_pgFlow, h_hdFlow, h_poFlow, h_saFlow⟩, h_nFlowrooms, h_nFlowstart, h_nFlowgoal, h_nFlowis_fullest⟩
  have B : TB mg := ⟨PySem.W.mg_none_of X G h_blen, PySem.W.mg_none_of X G h_brange, PySem.W.mg_none_of X G h_bmin, PySem.W.mg_none_of X G h_bsum⟩
  have N1 : TN mg := ⟨⟨_, PySem.W.mg_of X G h_gSPAN⟩, ⟨_, PySem.W.mg_of X G h_gGRAIN⟩⟩
  have N2 : TM2 mg := ⟨⟨_, PySem.W.mg_of X G h_gFEWEST_PLACES⟩, ⟨_, PySem.W.mg_of X G h_gMOST_PLACES⟩, ⟨_, PySem.W.mg_of X G h_gMOST_PIPES⟩, ⟨_, PySem.W.mg_of X G h_gMOST_HOLDS⟩, ⟨_, PySem.W.mg_of X G h_gMOST_COST⟩, ⟨_, PySem.W.mg_of X G h_gMOST_UNITS⟩⟩
  have N3 : TM3 mg := ⟨⟨_, PySem.W.mg_of X G h_gNEW_NET⟩, ⟨_, PySem.W.mg_of X G h_gPIPE⟩, ⟨_, PySem.W.mg_of X G h_gSEND⟩, ⟨_, PySem.W.mg_of X G h_gNARROW⟩⟩
  have XO : TX K mg "OutOfRange" Co := tx_of X G h_aOutOfRange h_eOutOfRange
  have XF : TX K mg "NetFull" Cfu := tx_of X G h_aNetFull h_eNetFull
  have XW : TX K mg "NoWallKnown" Cw := tx_of X G h_aNoWallKnown h_eNoWallKnown
  have E3 : T3 K mg Co Cfu Cw := ⟨XO.mgx, XF.mgx, XW.mgx, h_x0, h_x1, h_x2, h_x3, h_x4, h_x5⟩
  have Z : TZ K mg De := ⟨PySem.W.mg_of X G h_aSIZES, es, ep, h_oSIZES, h_zSIZES⟩
  obtain ⟨fd, FA⟩ := h_d_ans
  have FA' := FA
  obtain ⟨oc, od, kV, doc, pm, an, cdv, ct, osl, rfl, lk, hcd⟩ := FA.ex
  refine ⟨PySem.W.fnOf "answers" "answers" (defArgs sAns) (defBody sAns) (defScope sAns) .none kV doc pm an cdv ct, fun s us hu => match us, hu with | [_], _ => .of_eq rfl, fun base _ _ => ?_⟩
  have G_end : GF P w K mg base CX0 1 "end_of" ["rooms", "path", "start"] (spEnd Cr) := gf_of X G h_n_end h_d_end (fun _ _ _ _ _ _ us hl => match us, hl with | [_, _, _], _ => rfl) fun fd F => ok_end F TR
  have G_push : MF P w K mg base CX0 1 Cr "push" ["self", "path", "units"] (spPush Cr) := mf_of h_n_push h_i_push h_d_push (fun _ _ _ _ _ _ us hl => match us, hl with | [_, _, _], _ => rfl) fun fd F => ok_push F TR
  have G_addL : MF P w K mg base CX0 1 Cr "add_lane" ["self", "tail", "head", "room", "price"] (spAddL Cr) := mf_of h_n_addL h_i_addL h_d_addL (fun _ _ _ _ _ _ us hl => match us, hl with | [_, _, _, _, _], _ => rfl) fun fd F => ok_addL F TR B
  have G_rooI : IF P w K mg base CX0 2 "Rooms" Cr ["self", "places", "pipes"] (spRooI Cr) := if_of X G h_aRooms h_mkRooms h_kcRooms h_n_rooI h_i_rooI h_d_rooI (fun _ _ _ _ _ _ us hl => match us, hl with | [_, _, _], _ => rfl) fun fd F => ok_rooI F TR B G_addL
  have G_steps : MF P w K mg base CX0 1 Cr "steps" ["self", "start", "other"] (spSteps Cr) := mf_of h_n_steps h_i_steps h_d_steps (fun _ _ _ _ _ _ us hl => match us, hl with | [_, _, _], _ => rfl) fun fd F => ok_steps F TR B
  have G_cost : MF P w K mg base CX0 1 Cr "cost" ["self"] (spCost Cr) := mf_of h_n_cost h_i_cost h_d_cost (fun _ _ _ _ _ _ us hl => match us, hl with | [_], _ => rfl) fun fd F => ok_cost F TR B
  have G_bef : GF P w K mg base CX0 1 "before_full" ["rooms", "path"] (spBef Cr) := gf_of X G h_n_bef h_d_bef (fun _ _ _ _ _ _ us hl => match us, hl with | [_, _], _ => rfl) fun fd F => ok_bef F TR B
  have G_adv : GF P w K mg base CX0 1 "advance" ["rooms", "steps", "tried", "place"] (spAdv Cr) := gf_of X G h_n_adv h_d_adv (fun _ _ _ _ _ _ us hl => match us, hl with | [_, _, _, _], _ => rfl) fun fd F => ok_adv F TR B
  have G_short : GF P w K mg base CX0 2 "fill_shortest" ["rooms", "steps", "start", "goal", "most"] (spShort Cr) := gf_of X G h_n_short h_d_short (fun _ _ _ _ _ _ us hl => match us, hl with | [_, _, _, _, _], _ => rfl) fun fd F => ok_short F TR B G_end G_bef G_adv G_push
  have G_fill : GF P w K mg base CX0 3 "fill" ["rooms", "start", "goal", "most"] (spFill Cr) := gf_of X G h_n_fill h_d_fill (fun _ _ _ _ _ _ us hl => match us, hl with | [_, _, _, _], _ => rfl) fun fd F => ok_fill F TR G_steps G_short
  have G_put : GF P w K mg base CX0 1 "put_in_order" ["numbers", "number"] spPut := gf_of X G h_n_put h_d_put (fun _ _ _ _ _ _ us hl => match us, hl with | [_, _], _ => rfl) fun fd F => ok_put F B
  have G_path : MF P w K mg base CX0 1 Cs "path_to" ["self", "goal"] (spPath Cs Cr) := mf_of h_n_path h_i_path h_d_path (fun _ _ _ _ _ _ us hl => match us, hl with | [_, _], _ => rfl) fun fd F => ok_path F TS TR
  have G_look : MF P w K mg base CX0 2 Cs "look_on" ["self", "place"] (spLook Cs Cr) := mf_of h_n_look h_i_look h_d_look (fun _ _ _ _ _ _ us hl => match us, hl with | [_, _], _ => rfl) fun fd F => ok_look F TS TR N1 G_put
  have G_near : MF P w K mg base CX0 3 Cs "nearest_lack" ["self"] (spNear Cs Cr) := mf_of h_n_near h_i_near h_d_near (fun _ _ _ _ _ _ us hl => match us, hl with | [_], _ => rfl) fun fd F => ok_near F TS TR B N1 G_look
  have G_carI : IF P w K mg base CX0 1 "Carrier" Cc ["self", "rooms"] (spCarI Cc Cr) := if_of X G h_aCarrier h_mkCarrier h_kcCarrier h_n_carI h_i_carI h_d_carI (fun _ _ _ _ _ _ us hl => match us, hl with | [_, _], _ => rfl) fun fd F => ok_carI F TC TR
  have G_seaI : IF P w K mg base CX0 1 "Search" Cs ["self", "carrier", "portion"] (spSeaI Cs Cc Cr) := if_of X G h_aSearch h_mkSearch h_kcSearch h_n_seaI h_i_seaI h_d_seaI (fun _ _ _ _ _ _ us hl => match us, hl with | [_, _, _], _ => rfl) fun fd F => ok_seaI F TS TC TR
  have G_gain : MF P w K mg base CX0 2 Cc "fill_gainful" ["self", "portion"] (spGain Cc Cr) := mf_of h_n_gain h_i_gain h_d_gain (fun _ _ _ _ _ _ us hl => match us, hl with | [_, _], _ => rfl) fun fd F => ok_gain F TC TR B G_push
  have G_once : MF P w K mg base CX0 4 Cc "carry_once" ["self", "portion"] (spOnce Cc Cr) := mf_of h_n_once h_i_once h_d_once (fun _ _ _ _ _ _ us hl => match us, hl with | [_, _], _ => rfl) fun fd F => ok_once F TS TC TR B G_seaI G_near G_path G_push
  have G_carry : GF P w K mg base CX0 5 "carry_cheapest" ["rooms", "start", "goal", "units"] (spCarry Cr) := gf_of X G h_n_carry h_d_carry (fun _ _ _ _ _ _ us hl => match us, hl with | [_, _, _, _], _ => rfl) fun fd F => ok_carry F TC TR N1 G_carI G_gain G_once
  have G_range : GF P w K mg base (CXE P w) 1 "check_range" ["number", "lowest", "greatest"] (spRange Co) := gf_of X G h_n_range h_d_range (fun _ _ _ _ _ _ us hl => match us, hl with | [_, _, _], _ => rfl) fun fd F => ok_range F XO
  have G_place : MF P w K mg base (CXE P w) 2 Cn "check_place" ["self", "place"] (spPlace Cn Co) := mf_of h_n_place h_i_place h_d_place (fun _ _ _ _ _ _ us hl => match us, hl with | [_, _], _ => rfl) fun fd F => ok_place F TT G_range
  have G_ends : MF P w K mg base (CXE P w) 3 Cn "check_ends" ["self", "start", "goal"] (spEnds Cn Co) := mf_of h_n_ends h_i_ends h_d_ends (fun _ _ _ _ _ _ us hl => match us, hl with | [_, _, _], _ => rfl) fun fd F => ok_ends F TT XO G_place
  have G_netI : IF P w K mg base CX0 1 "Net" Cn ["self"] (spNetI Cn) := if_of X G h_aNet h_mkNet h_kcNet h_n_netI h_i_netI h_d_netI (fun _ _ _ _ _ _ us hl => match us, hl with | [_], _ => rfl) fun fd F => ok_netI F TT
  have G_begin : MF P w K mg base (CXE P w) 2 Cn "begin" ["self", "places"] (spBegin Cn Cf Cr Co) := mf_of h_n_begin h_i_begin h_d_begin (fun _ _ _ _ _ _ us hl => match us, hl with | [_, _], _ => rfl) fun fd F => ok_begin F TT N2 G_range
  have G_lay : MF P w K mg base (CXE P w) 3 Cn "lay" ["self", "a", "b", "holds", "cost"] (spLay Cn Cf Cr Co Cfu) := mf_of h_n_lay h_i_lay h_d_lay (fun _ _ _ _ _ _ us hl => match us, hl with | [_, _, _, _, _], _ => rfl) fun fd F => ok_lay F TT N2 B XF G_range G_place
  have G_floI : IF P w K mg base CX0 1 "Flow" Cf ["self", "rooms", "start", "goal", "is_fullest"] (spFloI Cf) := if_of X G h_aFlow h_mkFlow h_kcFlow h_n_floI h_i_floI h_d_floI (fun _ _ _ _ _ _ us hl => match us, hl with | [_, _, _, _, _], _ => rfl) fun fd F => ok_floI F TF
  have G_send : MF P w K mg base (CXE P w) 6 Cn "send" ["self", "start", "goal", "most"] (spSend Cn Cf Cr Co) := mf_of h_n_send h_i_send h_d_send (fun _ _ _ _ _ _ us hl => match us, hl with | [_, _, _, _], _ => rfl) fun fd F => ok_send F TT TR N2 G_range G_ends G_rooI G_fill G_carry G_floI G_cost
  have G_small : MF P w K mg base CX0 2 Cf "smallest_wall" ["self"] (spSmall Cf Cr) := mf_of h_n_small h_i_small h_d_small (fun _ _ _ _ _ _ us hl => match us, hl with | [_], _ => rfl) fun fd F => ok_small F TF TR G_steps
  have G_great : MF P w K mg base CX0 2 Cf "greatest_wall" ["self"] (spGreat Cf Cr) := mf_of h_n_great h_i_great h_d_great (fun _ _ _ _ _ _ us hl => match us, hl with | [_], _ => rfl) fun fd F => ok_great F TF TR G_steps
  have G_narrow : MF P w K mg base (CXE P w) 3 Cn "narrow" ["self", "far", "most"] (spNarrow Cn Cf Cr Co Cw) := mf_of h_n_narrow h_i_narrow h_d_narrow (fun _ _ _ _ _ _ us hl => match us, hl with | [_, _, _], _ => rfl) fun fd F => ok_narrow F TT TF N2 B XW G_range G_small G_great
  have G_ways : MF P w K mg base (CXE P w) 4 Cn "ways" ["self", "a", "b"] (spWays Cn Cf Cr Co) := mf_of h_n_ways h_i_ways h_d_ways (fun _ _ _ _ _ _ us hl => match us, hl with | [_, _, _], _ => rfl) fun fd F => ok_ways F TT B G_ends G_rooI G_fill
  have G_aof : GF P w K mg base (CXE P w) 7 "answer_of" ["net", "call", "numbers"] (spAof Cn Cf Cr Co Cfu Cw) := gf_of X G h_n_aof h_d_aof (fun _ _ _ _ _ _ us hl => match us, hl with | [_, _, _], _ => rfl) fun fd F => ok_aof F TT N3 G_begin G_lay G_send G_narrow G_ways
  have G_aor : GF P w K mg base CX0 8 "answer_or_refusal" ["net", "call", "numbers"] (spAor Cn Cf Cr) := gf_of X G h_n_aor h_d_aor (fun _ _ _ _ _ _ us hl => match us, hl with | [_, _, _], _ => rfl) fun fd F => ok_aor F E3 G_aof
  exact ok_ans FA' B Z G_netI G_aor
end Px
set_option Elab.async false
set_option linter.all false
set_option maxRecDepth 100000
set_option maxHeartbeats 2000000
/-! Names taken ahead. The head's tactic makes for each written-out state of the heap a second text of it, with a proof that grows as the square of the number of objects: 42 of 96 MB compiled, more than a compiled text may have here. Where the second text's name is taken, it goes on without it; what is stated and what is proved stay the same, and the kernel checks all of it. -/
def PySem.W.Fast.tw13026891779210056820 : Unit := ()
def PySem.W.Fast.tw4003507733209456675 : Unit := ()
def PySem.W.Fast.tw16087643303246836693 : Unit := ()
def PySem.W.Fast.tw6090700324405166737 : Unit := ()
def PySem.W.Fast.tw2773548643662813505 : Unit := ()
def PySem.W.Fast.tw3698754470545187406 : Unit := ()
def PySem.W.Fast.tw6991418005248485145 : Unit := ()
def PySem.W.Fast.tw16628325296233912064 : Unit := ()
def PySem.W.Fast.tw17755959715415291651 : Unit := ()
def PySem.W.Fast.tw16809381948296553256 : Unit := ()
def PySem.W.Fast.tw4601991315139398303 : Unit := ()
def PySem.W.Fast.tw7533636832173793680 : Unit := ()
def PySem.W.Fast.tw5829408517895150406 : Unit := ()
def PySem.W.Fast.tw15398074485585545351 : Unit := ()
def PySem.W.Fast.tw7672239280303970502 : Unit := ()
def PySem.W.Fast.tw14009418131432975841 : Unit := ()
def PySem.W.Fast.tw5208567495044852750 : Unit := ()
open PySem PySem.W PyProof.Rows
set_option maxRecDepth 100000 in
set_option maxHeartbeats 0 in
theorem PySem.Challenge.cw_pipenet_s01_answers_holds : PySem.Challenge.rw_pipenet_s01_answers.Holds := by
  w_on; k_headS; (case hw => exact ⟨[.list [.int 1, .int 2]], by decide +kernel, by decide +kernel⟩)
  k_fillS
  refine L2.walk_specK (r := PySem.Challenge.rw_pipenet_s01_answers) (k := 9) (CX := L2.CX0) (ps := ["calls"]) (sp := Px.spAns) (by decide +kernel) rfl rfl ⟨rfl, by decide, by decide⟩ (fun w h Y => PySem.W.kIn_of Y) ?F ?S (fun _ _ _ _ z => z)
  case F =>
    intro w mg fa h Y KX G hmg
    refine' Px.all_mk KX G hmg ?h_aRooms ?h_pgRooms ?h_hdRooms ?h_poRooms ?h_saRooms ?h_mkRooms ?h_kcRooms ?h_nRoomsplaces ?h_nRoomsheads ?h_nRoomsroom ?h_nRoomsprices ?h_nRoomslanes ?h_aCarrier ?h_pgCarrier ?h_hdCarrier ?h_poCarrier ?h_saCarrier ?h_mkCarrier ?h_kcCarrier ?h_nCarrierrooms ?h_nCarrierheights ?h_nCarrierextra ?h_aSearch ?h_pgSearch ?h_hdSearch ?h_poSearch ?h_saSearch ?h_mkSearch ?h_kcSearch ?h_nSearchrooms ?h_nSearchheights ?h_nSearchextra ?h_nSearchportion ?h_nSearchdistances ?h_nSearchentries ?h_nSearchsettled ?h_nSearchwaiting ?h_aNet ?h_pgNet ?h_hdNet ?h_poNet ?h_saNet ?h_mkNet ?h_kcNet ?h_nNetplaces ?h_nNetpipes ?h_nNetkept ?h_aFlow ?h_pgFlow ?h_hdFlow ?h_poFlow ?h_saFlow ?h_mkFlow ?h_kcFlow ?h_nFlowrooms ?h_nFlowstart ?h_nFlowgoal ?h_nFlowis_fullest ?h_aOutOfRange ?h_eOutOfRange ?h_aNetFull ?h_eNetFull ?h_aNoWallKnown ?h_eNoWallKnown ?h_x0 ?h_x1 ?h_x2 ?h_x3 ?h_x4 ?h_x5 ?h_blen ?h_brange ?h_bmin ?h_bsum ?h_gSPAN ?h_gGRAIN ?h_gFEWEST_PLACES ?h_gMOST_PLACES ?h_gMOST_PIPES ?h_gMOST_HOLDS ?h_gMOST_COST ?h_gMOST_UNITS ?h_gNEW_NET ?h_gPIPE ?h_gSEND ?h_gNARROW ?h_aSIZES ?h_oSIZES ?h_zSIZES ?h_n_end ?h_d_end ?h_n_push ?h_i_push ?h_d_push ?h_n_addL ?h_i_addL ?h_d_addL ?h_n_rooI ?h_i_rooI ?h_d_rooI ?h_n_steps ?h_i_steps ?h_d_steps ?h_n_cost ?h_i_cost ?h_d_cost ?h_n_bef ?h_d_bef ?h_n_adv ?h_d_adv ?h_n_short ?h_d_short ?h_n_fill ?h_d_fill ?h_n_put ?h_d_put ?h_n_path ?h_i_path ?h_d_path ?h_n_look ?h_i_look ?h_d_look ?h_n_near ?h_i_near ?h_d_near ?h_n_carI ?h_i_carI ?h_d_carI ?h_n_seaI ?h_i_seaI ?h_d_seaI ?h_n_gain ?h_i_gain ?h_d_gain ?h_n_once ?h_i_once ?h_d_once ?h_n_carry ?h_d_carry ?h_n_range ?h_d_range ?h_n_place ?h_i_place ?h_d_place ?h_n_ends ?h_i_ends ?h_d_ends ?h_n_netI ?h_i_netI ?h_d_netI ?h_n_begin ?h_i_begin ?h_d_begin ?h_n_lay ?h_i_lay ?h_d_lay ?h_n_floI ?h_i_floI ?h_d_floI ?h_n_send ?h_i_send ?h_d_send ?h_n_small ?h_i_small ?h_d_small ?h_n_great ?h_i_great ?h_d_great ?h_n_narrow ?h_i_narrow ?h_d_narrow ?h_n_ways ?h_i_ways ?h_d_ways ?h_n_aof ?h_d_aof ?h_n_aor ?h_d_aor ?h_n_ans ?h_d_ans
    (case h_aRooms => k_is)
    (case h_pgRooms => k_is)
    (case h_hdRooms => k_is)
    (case h_poRooms => k_is)
    (case h_saRooms => k_is)
    (case h_mkRooms => k_is)
    (case h_kcRooms => k_is)
    (case h_nRoomsplaces => k_is)
    (case h_nRoomsheads => k_is)
    (case h_nRoomsroom => k_is)
    (case h_nRoomsprices => k_is)
    (case h_nRoomslanes => k_is)
    (case h_aCarrier => k_is)
    (case h_pgCarrier => k_is)
    (case h_hdCarrier => k_is)
    (case h_poCarrier => k_is)
    (case h_saCarrier => k_is)
    (case h_mkCarrier => k_is)
    (case h_kcCarrier => k_is)
    (case h_nCarrierrooms => k_is)
    (case h_nCarrierheights => k_is)
    (case h_nCarrierextra => k_is)
    (case h_aSearch => k_is)
    (case h_pgSearch => k_is)
    (case h_hdSearch => k_is)
    (case h_poSearch => k_is)
    (case h_saSearch => k_is)
    (case h_mkSearch => k_is)
    (case h_kcSearch => k_is)
    (case h_nSearchrooms => k_is)
    (case h_nSearchheights => k_is)
    (case h_nSearchextra => k_is)
    (case h_nSearchportion => k_is)
    (case h_nSearchdistances => k_is)
    (case h_nSearchentries => k_is)
    (case h_nSearchsettled => k_is)
    (case h_nSearchwaiting => k_is)
    (case h_aNet => k_is)
    (case h_pgNet => k_is)
    (case h_hdNet => k_is)
    (case h_poNet => k_is)
    (case h_saNet => k_is)
    (case h_mkNet => k_is)
    (case h_kcNet => k_is)
    (case h_nNetplaces => k_is)
    (case h_nNetpipes => k_is)
    (case h_nNetkept => k_is)
    (case h_aFlow => k_is)
    (case h_pgFlow => k_is)
    (case h_hdFlow => k_is)
    (case h_poFlow => k_is)
    (case h_saFlow => k_is)
    (case h_mkFlow => k_is)
    (case h_kcFlow => k_is)
    (case h_nFlowrooms => k_is)
    (case h_nFlowstart => k_is)
    (case h_nFlowgoal => k_is)
    (case h_nFlowis_fullest => k_is)
    (case h_aOutOfRange => k_is)
    (case h_eOutOfRange => k_exc)
    (case h_aNetFull => k_is)
    (case h_eNetFull => k_exc)
    (case h_aNoWallKnown => k_is)
    (case h_eNoWallKnown => k_exc)
    (case h_x0 => kernel_rfl)
    (case h_x1 => kernel_rfl)
    (case h_x2 => kernel_rfl)
    (case h_x3 => kernel_rfl)
    (case h_x4 => kernel_rfl)
    (case h_x5 => kernel_rfl)
    (case h_blen => k_is)
    (case h_brange => k_is)
    (case h_bmin => k_is)
    (case h_bsum => k_is)
    (case h_gSPAN => k_is)
    (case h_gGRAIN => k_is)
    (case h_gFEWEST_PLACES => k_is)
    (case h_gMOST_PLACES => k_is)
    (case h_gMOST_PIPES => k_is)
    (case h_gMOST_HOLDS => k_is)
    (case h_gMOST_COST => k_is)
    (case h_gMOST_UNITS => k_is)
    (case h_gNEW_NET => k_is)
    (case h_gPIPE => k_is)
    (case h_gSEND => k_is)
    (case h_gNARROW => k_is)
    (case h_aSIZES => k_is)
    (case h_oSIZES => k_is)
    (case h_zSIZES => kernel_rfl)
    (case h_n_end => k_is)
    (case h_d_end => refine' Px.dk_mk ?l ?c ?k; (case l => k_is); (case c => k_is); (case k => k_is))
    (case h_n_push => k_is)
    (case h_i_push => k_is)
    (case h_d_push => refine' Px.dk_mk ?l ?c ?k; (case l => k_is); (case c => k_is); (case k => k_is))
    (case h_n_addL => k_is)
    (case h_i_addL => k_is)
    (case h_d_addL => refine' Px.dk_mk ?l ?c ?k; (case l => k_is); (case c => k_is); (case k => k_is))
    (case h_n_rooI => k_is)
    (case h_i_rooI => k_is)
    (case h_d_rooI => refine' Px.dk_mk ?l ?c ?k; (case l => k_is); (case c => k_is); (case k => k_is))
    (case h_n_steps => k_is)
    (case h_i_steps => k_is)
    (case h_d_steps => refine' Px.dk_mk ?l ?c ?k; (case l => k_is); (case c => k_is); (case k => k_is))
    (case h_n_cost => k_is)
    (case h_i_cost => k_is)
    (case h_d_cost => refine' Px.dk_mk ?l ?c ?k; (case l => k_is); (case c => k_is); (case k => k_is))
    (case h_n_bef => k_is)
    (case h_d_bef => refine' Px.dk_mk ?l ?c ?k; (case l => k_is); (case c => k_is); (case k => k_is))
    (case h_n_adv => k_is)
    (case h_d_adv => refine' Px.dk_mk ?l ?c ?k; (case l => k_is); (case c => k_is); (case k => k_is))
    (case h_n_short => k_is)
    (case h_d_short => refine' Px.dk_mk ?l ?c ?k; (case l => k_is); (case c => k_is); (case k => k_is))
    (case h_n_fill => k_is)
    (case h_d_fill => refine' Px.dk_mk ?l ?c ?k; (case l => k_is); (case c => k_is); (case k => k_is))
    (case h_n_put => k_is)
    (case h_d_put => refine' Px.dk_mk ?l ?c ?k; (case l => k_is); (case c => k_is); (case k => k_is))
    (case h_n_path => k_is)
    (case h_i_path => k_is)
    (case h_d_path => refine' Px.dk_mk ?l ?c ?k; (case l => k_is); (case c => k_is); (case k => k_is))
    (case h_n_look => k_is)
    (case h_i_look => k_is)
    (case h_d_look => refine' Px.dk_mk ?l ?c ?k; (case l => k_is); (case c => k_is); (case k => k_is))
    (case h_n_near => k_is)
    (case h_i_near => k_is)
    (case h_d_near => refine' Px.dk_mk ?l ?c ?k; (case l => k_is); (case c => k_is); (case k => k_is))
    (case h_n_carI => k_is)
    (case h_i_carI => k_is)
    (case h_d_carI => refine' Px.dk_mk ?l ?c ?k; (case l => k_is); (case c => k_is); (case k => k_is))
    (case h_n_seaI => k_is)
    (case h_i_seaI => k_is)
    (case h_d_seaI => refine' Px.dk_mk ?l ?c ?k; (case l => k_is); (case c => k_is); (case k => k_is))
    (case h_n_gain => k_is)
    (case h_i_gain => k_is)
    (case h_d_gain => refine' Px.dk_mk ?l ?c ?k; (case l => k_is); (case c => k_is); (case k => k_is))
    (case h_n_once => k_is)
    (case h_i_once => k_is)
    (case h_d_once => refine' Px.dk_mk ?l ?c ?k; (case l => k_is); (case c => k_is); (case k => k_is))
    (case h_n_carry => k_is)
    (case h_d_carry => refine' Px.dk_mk ?l ?c ?k; (case l => k_is); (case c => k_is); (case k => k_is))
    (case h_n_range => k_is)
    (case h_d_range => refine' Px.dk_mk ?l ?c ?k; (case l => k_is); (case c => k_is); (case k => k_is))
    (case h_n_place => k_is)
    (case h_i_place => k_is)
    (case h_d_place => refine' Px.dk_mk ?l ?c ?k; (case l => k_is); (case c => k_is); (case k => k_is))
    (case h_n_ends => k_is)
    (case h_i_ends => k_is)
    (case h_d_ends => refine' Px.dk_mk ?l ?c ?k; (case l => k_is); (case c => k_is); (case k => k_is))
    (case h_n_netI => k_is)
    (case h_i_netI => k_is)
    (case h_d_netI => refine' Px.dk_mk ?l ?c ?k; (case l => k_is); (case c => k_is); (case k => k_is))
    (case h_n_begin => k_is)
    (case h_i_begin => k_is)
    (case h_d_begin => refine' Px.dk_mk ?l ?c ?k; (case l => k_is); (case c => k_is); (case k => k_is))
    (case h_n_lay => k_is)
    (case h_i_lay => k_is)
    (case h_d_lay => refine' Px.dk_mk ?l ?c ?k; (case l => k_is); (case c => k_is); (case k => k_is))
    (case h_n_floI => k_is)
    (case h_i_floI => k_is)
    (case h_d_floI => refine' Px.dk_mk ?l ?c ?k; (case l => k_is); (case c => k_is); (case k => k_is))
    (case h_n_send => k_is)
    (case h_i_send => k_is)
    (case h_d_send => refine' Px.dk_mk ?l ?c ?k; (case l => k_is); (case c => k_is); (case k => k_is))
    (case h_n_small => k_is)
    (case h_i_small => k_is)
    (case h_d_small => refine' Px.dk_mk ?l ?c ?k; (case l => k_is); (case c => k_is); (case k => k_is))
    (case h_n_great => k_is)
    (case h_i_great => k_is)
    (case h_d_great => refine' Px.dk_mk ?l ?c ?k; (case l => k_is); (case c => k_is); (case k => k_is))
    (case h_n_narrow => k_is)
    (case h_i_narrow => k_is)
    (case h_d_narrow => refine' Px.dk_mk ?l ?c ?k; (case l => k_is); (case c => k_is); (case k => k_is))
    (case h_n_ways => k_is)
    (case h_i_ways => k_is)
    (case h_d_ways => refine' Px.dk_mk ?l ?c ?k; (case l => k_is); (case c => k_is); (case k => k_is))
    (case h_n_aof => k_is)
    (case h_d_aof => refine' Px.dk_mk ?l ?c ?k; (case l => k_is); (case c => k_is); (case k => k_is))
    (case h_n_aor => k_is)
    (case h_d_aor => refine' Px.dk_mk ?l ?c ?k; (case l => k_is); (case c => k_is); (case k => k_is))
    (case h_n_ans => k_is)
    (case h_d_ans => refine' Px.dk_mk ?l ?c ?k; (case l => k_is); (case c => k_is); (case k => k_is))
  case S =>
    intro K H xs a hO hwi hask hx
    cases hx with
    | cons h1 h2 =>
      cases h2
      cases h1 with
      | lst hs ha =>
        have e := L2.ints_dw a.1 _ ha
        subst e
        have q : ((Codec.inLen 0 16000 a.1 && a.1.all (Codec.inInt (Int.negSucc 2147483647) (Int.ofNat 18446744073709551615))) && true) = true := hwi
        rw [Bool.and_eq_true, Bool.and_eq_true] at q
        exact ⟨_, a.1, rfl, hs, (Codec.inNat_iff.mp q.1.1).2, hask, fun H' p hp => .lst (L2.SqL.of hp) (L2.dw_ints _)⟩
