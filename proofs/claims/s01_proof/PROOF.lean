import PyProof.Rows.All
import Wide.All
import OpenK.AllK
import Wide.FinOn
import PyProof.EqAt
import PyProof.EqKinds
import PyProof.TupleCall
import KE.BitLaws
import Open.SpecLaws
import KE.OsHead
import KE.OsGo
import KE.IntBitsLaws
import PySem.Challenge.RW_smallgames_s01_answers
set_option Elab.async false
set_option linter.all false
set_option maxRecDepth 100000
/-! THE HAND LAYER, for ints, bools, texts, own classes, lists, tuples, dicts, comprehensions, walks over dicts, enumerate, zip, reversed, texts, calls, loops. Paste it whole ahead of your own text; what your proof does not reach may be deleted. -/
namespace L2
open PySem PySem.Spec PyProof.Rows
/-- a key: an int or a str -/
abbrev Key := Sum Int Str
def keyIs : Key → Value → Bool
  | .inl k, v => Value.isInt k v
  | .inr x, v => Value.isStrOf x v
def keyH (w : World) : Key → Int
  | .inl k => hashInt k
  | .inr x => hashStr w x
theorem keyIs_shape : ∀ {k : Key} {v : Value}, keyIs k v = true → (∃ i t, k = Sum.inl i ∧ v = Value.int i t) ∨ (∃ x t, k = Sum.inr x ∧ v = Value.str x t)
  | .inl i, v, h => by
    obtain ⟨t, e⟩ := Value.isInt_shape (k := i) (v := v) h
    exact .inl ⟨i, t, rfl, e⟩
  | .inr x, v, h => by
    obtain ⟨t, e⟩ := Value.isStrOf_shape (x := x) (v := v) h
    exact .inr ⟨x, t, rfl, e⟩
theorem key_ll (a b : Int) : decide ((Sum.inl a : Key) = Sum.inl b) = (a == b) := by
  by_cases e : a = b
  · subst e; simp
  · have h : ¬ (Sum.inl a : Key) = Sum.inl b := fun q => e (Sum.inl.inj q)
    rw [decide_eq_false h]
    exact (beq_eq_false_iff_ne.mpr e).symm
theorem key_rr (a b : Str) : decide ((Sum.inr a : Key) = Sum.inr b) = decide (a = b) := by
  by_cases e : a = b
  · subst e; simp
  · have h : ¬ (Sum.inr a : Key) = Sum.inr b := fun q => e (Sum.inr.inj q)
    rw [decide_eq_false h, decide_eq_false e]
theorem key_lr (a : Int) (b : Str) : decide ((Sum.inl a : Key) = Sum.inr b) = false := decide_eq_false (fun q => nomatch q)
theorem key_rl (a : Str) (b : Int) : decide ((Sum.inr a : Key) = Sum.inl b) = false := decide_eq_false (fun q => nomatch q)
def mixKind (prog : Program) (w : World) : PySem.KeyKind prog w Key where
  is := keyIs
  hash := keyH w
  inj := fun v a b ha hb => by
    rcases keyIs_shape ha with ⟨i, t, rfl, rfl⟩ | ⟨x, t, rfl, rfl⟩
    · rcases keyIs_shape hb with ⟨j, u, rfl, e⟩ | ⟨y, u, rfl, e⟩
      · injection e with e1 _; rw [e1]
      · exact nomatch e
    · rcases keyIs_shape hb with ⟨j, u, rfl, e⟩ | ⟨y, u, rfl, e⟩
      · exact nomatch e
      · injection e with e1 _; rw [e1]
  byValue := fun k v h => by
    rcases keyIs_shape h with ⟨i, t, rfl, rfl⟩ | ⟨x, t, rfl, rfl⟩ <;> rfl
  pyHash := fun hv h => by
    rcases keyIs_shape hv with ⟨i, t, rfl, rfl⟩ | ⟨x, t, rfl, rfl⟩
    · exact wpAny_pyHash_int h
    · exact wpAny_pyHash_str h
  eqBool := fun hu hv h => by
    rcases keyIs_shape hu with ⟨i, t, rfl, rfl⟩ | ⟨x, t, rfl, rfl⟩
    · rcases keyIs_shape hv with ⟨j, u, rfl, rfl⟩ | ⟨y, u, rfl, rfl⟩
      · rw [key_ll] at h; exact wpAny_eqBool_int h
      · rw [key_lr] at h; exact SeqAt.EqAt.int_str i t y u _ _ _ _ h
    · rcases keyIs_shape hv with ⟨j, u, rfl, rfl⟩ | ⟨y, u, rfl, rfl⟩
      · rw [key_rl] at h; exact SeqAt.EqAt.str_int x t j u _ _ _ _ h
      · rw [key_rr] at h; exact wpAny_eqBool_str h
  «strs» := fun k x t v h => by
    rcases keyIs_shape h with ⟨i, u, rfl, e⟩ | ⟨y, u, rfl, e⟩
    · exact nomatch e
    · injection e with e1 _
      subst e1
      cases v <;> rfl
end L2
namespace L2
open PySem PySem.Spec PyProof.Rows
/-- a value, without the heap -/
inductive V where
  | non | bl (b : Bool) | int (i : Int) | str (x : Str) | byt (b : Array UInt8) | flt (b : UInt64) | ref (a : Addr) | ty (n : String)
  deriving DecidableEq
def RelV : V → Value → Prop
  | .non, u => u = Value.none
  | .bl b, u => u = Value.bool b
  | .int i, u => ∃ t, u = Value.int i t
  | .str x, u => ∃ t, u = Value.str x t
  | .byt b, u => ∃ t, u = Value.bytes b t
  | .flt b, u => ∃ t, u = Value.float b t
  | .ref a, u => u = Value.ref a
  | .ty n, u => u = Value.type n
abbrev Vals : List V → List Value → Prop := Paired RelV
theorem Vals.length {xs : List V} {us : List Value} (r : Vals xs us) : xs.length = us.length := Paired.length r
theorem Vals.get : ∀ {xs : List V} {us : List Value} {i : Nat} {x : V}, Vals xs us → xs[i]? = some x → ∃ u, us[i]? = some u ∧ RelV x u
  | _, _, _, _, .nil, e => by simp at e
  | _, _, 0, _, .cons r _, e => by simp at e; subst e; exact ⟨_, rfl, r⟩
  | _, _, i + 1, x, .cons _ t, e => by
    obtain ⟨u, h1, h2⟩ := Vals.get (i := i) (x := x) t (by simpa using e)
    exact ⟨u, by simpa using h1, h2⟩
theorem Vals.set {x : V} {u : Value} (r : RelV x u) : ∀ {xs : List V} {us : List Value} (i : Nat), Vals xs us → Vals (xs.set i x) (us.set i u)
  | _, _, _, .nil => .nil
  | _, _, 0, .cons _ t => .cons r t
  | _, _, i + 1, .cons q t => .cons q (Vals.set r i t)
theorem Vals.append : ∀ {xs ys : List V} {us ws : List Value}, Vals xs us → Vals ys ws → Vals (xs ++ ys) (us ++ ws)
  | _, _, _, _, .nil, s => s
  | _, _, _, _, .cons r t, s => .cons r (Vals.append t s)
theorem Vals.take : ∀ {xs : List V} {us : List Value} (n : Nat), Vals xs us → Vals (xs.take n) (us.take n)
  | _, _, 0, _ => .nil
  | _, _, _ + 1, .nil => .nil
  | _, _, n + 1, .cons r t => .cons r (Vals.take n t)
theorem Vals.drop : ∀ {xs : List V} {us : List Value} (n : Nat), Vals xs us → Vals (xs.drop n) (us.drop n)
  | _, _, 0, r => r
  | _, _, _ + 1, .nil => .nil
  | _, _, n + 1, .cons _ t => Vals.drop n t
def RelO : Option V → Option Value → Prop
  | some v, some u => RelV v u
  | none, none => True
  | _, _ => False
def KV {κ : Type} : List (κ × V) → List (κ × Value) → Prop := Paired fun (p : κ × V) (q : κ × Value) => p.1 = q.1 ∧ RelV p.2 q.2
/-- a key of a dict (00_mix): an int or a text -/
def kV : Key → V
  | .inl i => .int i
  | .inr x => .str x
/-- what stands at a tracked address -/
inductive HO where
  /-- a list -/
  | lst (xs : List V)
  /-- a tuple (never changes) -/
  | tup (xs : List V)
  /-- a dict whose keys are ints and texts; one whose keys are tuples of ints and texts (the empty one is both) -/
  | dK (kvs : List (Key × V)) | dT (kvs : List (List Key × V))
  /-- a set of ints: its members, its size -/
  | set (S : Int → Bool) (n : Nat)
  /-- an instance of the class at C, its dict at dx, its attributes -/
  | ins (C dx : Addr) (fs : List (Str × V))
  /-- the dict of the instance at x -/
  | own (x : Addr)
  /-- the dict of an exception -/
  | xd (fs : List (Str × V))
  /-- a bound method, f of x -/
  | met (f x : Addr)
  /-- a range object lo, lo + 1, .. below hi -/
  | rng (lo hi : Int)
  /-- a thing that is known to the object (the script; a dict while a loop walks it): read, never written while it is so -/
  | frz (o : Obj) (u : HO)
  /-- a code object's table -/
  | tbl (ps : Array Value)
  /-- any other thing, by what is true of its one object (a def of one's own: SetO a S n := HO.ext fun h => ..) -/
  | ext (φ : Heap → Prop)
abbrev Hp := Addr → Option HO
def upd (H : Hp) (a : Addr) (o : HO) : Hp := fun b => if b = a then some o else H b
theorem upd_same {H : Hp} {a : Addr} {o : HO} : upd H a o a = some o := by unfold upd; rw [if_pos rfl]
theorem upd_ne {H : Hp} {a b : Addr} {o : HO} (h : b ≠ a) : upd H a o b = H b := by unfold upd; rw [if_neg h]
theorem upd_upd {H : Hp} {a : Addr} {o u : HO} : upd (upd H a o) a u = upd H a u := by
  funext b; unfold upd; split <;> rfl
/-- two objects of different content stand apart -/
theorem ne_of {H : Hp} {a b : Addr} {o u : HO} (h : H a = some o) (h' : H b = some u) (d : o ≠ u) : a ≠ b := by
  intro e; subst e; rw [h] at h'; exact d (Option.some.inj h')
theorem ne_of_none {H : Hp} {a b : Addr} {o : HO} (h : H a = some o) (h' : H b = none) : a ≠ b := by
  intro e; subst e; rw [h] at h'; cases h'
section
variable (P : Program) (w : World)
def ObjOk (H : Hp) (h : Heap) (a : Addr) : HO → Prop
  | .lst xs => xs.length ≤ sizeLine ∧ ∃ (its : List Value) (n : Nat), Vals xs its ∧ h.get? a = some { cls := .type "list", data := .seq its.toArray n }
  | .tup xs => xs.length ≤ sizeLine ∧ ∃ its : List Value, Vals xs its ∧ IsTup h a its.toArray
  | .dK kvs => kvs.length ≤ sizeLine ∧ (a == sysModules) = false ∧ ∃ vs, KV kvs vs ∧ h.DictOf (mixKind P w) a vs
  | .dT kvs => kvs.length ≤ sizeLine ∧ (a == sysModules) = false ∧ ∃ xs : List (List Key × Addr × Value),
      Paired (fun (p : List Key × V) (q : List Key × Addr × Value) => p.1 = q.1 ∧ H q.2.1 = some (.tup (p.1.map kV)) ∧ RelV p.2 q.2.2) kvs xs ∧
      ∃ o es ep, h.get? a = some o ∧ o.ExactDict ∧ o.data = .dict es ep ∧ es.toList = xs.map (entryOfKey (tupleKind (mixKind P w))) ∧ (xs.map (·.1)).Nodup
  | .set S n => h.SetOf (intKind P w) a S n
  | .ins C dx fs => H dx = some (.own a) ∧ fs.length ≤ 1000 ∧ dx ≠ a ∧ h.get? a = some (PySem.W.instObj C dx) ∧
      ∃ mA, h.Ns1 dx mA ∧ (∀ f, RelO (fs.lookup f) (mA f)) ∧ PySem.Within mA (fs.map (·.1))
  | .own _ => ∃ o, h.get? a = some o
  | .xd fs => ∃ mA, h.Ns1 a mA ∧ ∀ f, RelO (fs.lookup f) (mA f)
  | .rng lo hi => ∃ t u v, h.get? a = some { cls := .type "range", data := .fields #[.int lo t, .int hi u, .int 1 v] }
  | .frz o u => h.get? a = some o ∧ ObjOk H h a u
  | .tbl ps => h.get? a = some { cls := .none, data := .fields ps }
  | .met f x => h.get? a = some (PySem.W.methodObj (.ref f) (.ref x))
  | .ext φ => φ h ∧ (∃ o, h.get? a = some o) ∧ ∀ h1 h2 : Heap, φ h1 → (∀ o, h1.get? a = some o → h2.get? a = some o) → φ h2
/-- the abstract heap is held -/
def HOk (H : Hp) (h : Heap) : Prop := ∀ a o, H a = some o → ObjOk P w H h a o
end
section
variable {P : Program} {w : World} {H H' : Hp} {h h' : Heap} {a : Addr} {o : HO}
theorem ObjOk.lt (x : ObjOk P w H h a o) : a < h.objs.size := by
  cases o with
  | lst xs => obtain ⟨_, _, _, _, e⟩ := x; exact Heap.lt_size e
  | tup xs => obtain ⟨_, _, _, p⟩ := x; exact p.lt
  | dK kvs => obtain ⟨_, _, _, _, o, _, _, e, _⟩ := x; exact Heap.lt_size e
  | dT kvs => obtain ⟨_, _, _, _, o, _, _, e, _⟩ := x; exact Heap.lt_size e
  | set S n => obtain ⟨o, _, _, _, e, _⟩ := x; exact Heap.lt_size e
  | ins C dx fs => obtain ⟨_, _, _, e, _⟩ := x; exact Heap.lt_size e
  | own y => obtain ⟨_, e⟩ := x; exact Heap.lt_size e
  | xd fs => obtain ⟨_, ⟨_, _, _, e, _⟩, _⟩ := x; exact Heap.lt_size e
  | rng lo hi => obtain ⟨_, _, _, e⟩ := x; exact Heap.lt_size e
  | frz ob u => obtain ⟨e, _⟩ := x; exact Heap.lt_size e
  | tbl ps => exact Heap.lt_size (show h.get? a = some _ from x)
  | met f y => exact Heap.lt_size (show h.get? a = some _ from x)
  | ext φ => obtain ⟨_, ⟨_, e⟩, _⟩ := x; exact Heap.lt_size e
theorem Paired.mapP {α β : Type} {F G : α → β → Prop} : ∀ {l₁ : List α} {l₂ : List β}, Paired F l₁ l₂ → (∀ a b, F a b → G a b) → Paired G l₁ l₂
  | _, _, .nil, _ => .nil
  | _, _, .cons r t, f => .cons (f _ _ r) (Paired.mapP t f)
/-- what an object's description leans on: its own object, its own dict, the tuples -/
theorem ObjOk.stay (x : ObjOk P w H h a o) (k : ∀ b u, (b = a ∨ H b = some (.own a)) → h.get? b = some u → h'.get? b = some u)
    (ho : ∀ b, H b = some (.own a) → H' b = some (.own a)) (ht : ∀ b xs, H b = some (.tup xs) → H' b = some (.tup xs)) : ObjOk P w H' h' a o := by
  induction o with
  | lst xs => obtain ⟨z, its, n, r, e⟩ := x; exact ⟨z, its, n, r, k _ _ (.inl rfl) e⟩
  | tup xs => obtain ⟨z, its, r, ob, e, c⟩ := x; exact ⟨z, its, r, ob, k _ _ (.inl rfl) e, c⟩
  | dK kvs => obtain ⟨z, y, vs, r, ob, es, ep, e, c⟩ := x; exact ⟨z, y, vs, r, ob, es, ep, k _ _ (.inl rfl) e, c⟩
  | dT kvs =>
    obtain ⟨z, y, xs, r, ob, es, ep, e, c⟩ := x
    exact ⟨z, y, xs, Paired.mapP r fun p q z => ⟨z.1, ht _ _ z.2.1, z.2.2⟩, ob, es, ep, k _ _ (.inl rfl) e, c⟩
  | set S n => obtain ⟨ob, es, ep, t, e, c⟩ := x; exact ⟨ob, es, ep, t, k _ _ (.inl rfl) e, c⟩
  | ins C dx fs =>
    obtain ⟨d, z, ne, e, mA, ⟨od, es, ep, e2, c⟩, r⟩ := x
    exact ⟨ho _ d, z, ne, k _ _ (.inl rfl) e, mA, ⟨od, es, ep, k _ _ (.inr d) e2, c⟩, r⟩
  | own y => obtain ⟨ob, e⟩ := x; exact ⟨ob, k _ _ (.inl rfl) e⟩
  | xd fs => obtain ⟨mA, ⟨od, es, ep, e, c⟩, r⟩ := x; exact ⟨mA, ⟨od, es, ep, k _ _ (.inl rfl) e, c⟩, r⟩
  | rng lo hi => obtain ⟨t, u, v, e⟩ := x; exact ⟨t, u, v, k _ _ (.inl rfl) e⟩
  | frz ob u ih => obtain ⟨e, q⟩ := x; exact ⟨k _ _ (.inl rfl) e, ih q⟩
  | tbl ps =>
    have e : h.get? a = some { cls := .none, data := .fields ps } := x
    show h'.get? a = some { cls := .none, data := .fields ps }
    exact k a _ (.inl rfl) e
  | met f y =>
    have e : h.get? a = some (PySem.W.methodObj (.ref f) (.ref y)) := x
    show h'.get? a = some (PySem.W.methodObj (.ref f) (.ref y))
    exact k a _ (.inl rfl) e
  | ext φ => obtain ⟨p, ⟨o, e⟩, st⟩ := x; exact ⟨st _ _ p fun o q => k _ _ (.inl rfl) q, ⟨o, k _ _ (.inl rfl) e⟩, st⟩
theorem HOk.lt (x : HOk P w H h) (e : H a = some o) : a < h.objs.size := (x a o e).lt
theorem HOk.fresh (x : HOk P w H h) (e : h.objs.size ≤ a) : H a = none := by
  cases q : H a with
  | none => rfl
  | some u => exact absurd (Nat.lt_of_lt_of_le (x.lt q) e) (Nat.lt_irrefl _)
/-- every object of the heap is kept -/
theorem HOk.kept (x : HOk P w H h) (k : ∀ b u, h.get? b = some u → h'.get? b = some u) : HOk P w H h' := fun a o e =>
  (x a o e).stay (fun b u _ q => k b u q) (fun _ q => q) fun _ _ q => q
/-- a new object is laid and tracked -/
theorem HOk.laid (x : HOk P w H h) (k : ∀ b u, h.get? b = some u → h'.get? b = some u) (hp : h.objs.size ≤ a) (new : ObjOk P w (upd H a o) h' a o) : HOk P w (upd H a o) h' := fun b u e => by
  have hn := x.fresh hp
  by_cases hb : b = a
  · subst hb; rw [upd_same] at e; cases e; exact new
  · rw [upd_ne hb] at e
    exact (x b u e).stay (fun c v _ q => k c v q) (fun c q => by rw [upd_ne (ne_of_none q hn)]; exact q) fun c xs q => by rw [upd_ne (ne_of_none q hn)]; exact q
end
/-- what may be read as u: it is u, or a known u -/
def Rd (H : Hp) (a : Addr) (u : HO) : Prop := H a = some u ∨ ∃ o, H a = some (.frz o u)
theorem Rd.ok {P : Program} {w : World} {H : Hp} {h : Heap} {a : Addr} {u : HO} (r : Rd H a u) (x : HOk P w H h) : ObjOk P w H h a u := by
  rcases r with r | ⟨o, r⟩
  · exact x a u r
  · obtain ⟨_, q⟩ := x a _ r
    exact q
/-- what may be written -/
def Mut : Option HO → Prop
  | some (.lst _) => True
  | some (.dK _) => True
  | some (.dT _) => True
  | some (.set _ _) => True
  | some (.ins _ _ _) => True
  | some (.ext _) => True
  | _ => False
section
variable {P : Program} {w : World} {H : Hp} {h h' : Heap} {x e : Addr} {o' : HO}
/-- the object at e is changed: x itself, or the dict of the instance x -/
theorem HOk.write (ok : HOk P w H h) (mu : Mut (H x)) (he : e = x ∨ H e = some (.own x)) (k : ∀ b u, b ≠ e → h.get? b = some u → h'.get? b = some u) (heo : ∃ u, h'.get? e = some u)
    (new : ObjOk P w (upd H x o') h' x o') : HOk P w (upd H x o') h' := fun b u q => by
  have nown : ∀ c y, H c = some (.own y) → c ≠ x := fun c y r z => by subst z; rw [r] at mu; exact mu
  have ntup : ∀ c xs, H c = some (.tup xs) → c ≠ x := fun c xs r z => by subst z; rw [r] at mu; exact mu
  by_cases hb : b = x
  · subst hb; rw [upd_same] at q; cases q; exact new
  · rw [upd_ne hb] at q
    by_cases hbe : b = e
    · have q' : H b = some (.own x) := by
        rcases he with z | z
        · exact absurd (hbe.trans z) hb
        · rw [hbe]; exact z
      rw [q] at q'; cases q'
      obtain ⟨v, hv⟩ := heo
      exact ⟨v, by rw [hbe]; exact hv⟩
    · refine (ok b u q).stay (fun c v hc r => k c v ?_ r) (fun c r => by rw [upd_ne (nown c b r)]; exact r) fun c xs r => by rw [upd_ne (ntup c xs r)]; exact r
      rcases hc with rfl | hc
      · exact hbe
      · rintro rfl
        rcases he with z | z
        · exact nown c b hc z
        · rw [hc] at z; cases z; exact hb rfl
end
/-! ### kept unless tracked; of the frames at fs (the callers') the slots may change (an exception that passes writes there); of the records at ex (iterators) nothing is said -/
structure Un (fs ex : List Addr) (H H' : Hp) (h h' : Heap) : Prop where
  keep : ∀ b o, h.get? b = some o → H b = none → b ∉ fs → b ∉ ex → h'.get? b = some o
  slot : ∀ b o, h.get? b = some o → H b = none → b ∈ fs → b ∉ ex → ∃ sl, h'.get? b = some { o with slots := sl }
  free : ∀ b o, h.get? b = some o → H b = none → b ∉ ex → H' b = none
  there : ∀ b o, h.get? b = some o → b ∉ ex → ∃ o', h'.get? b = some o'
  tups : ∀ b xs, H b = some (.tup xs) → H' b = some (.tup xs)
  frzs : ∀ b o u, H b = some (.frz o u) → H' b = some (.frz o u)
  tbls : ∀ b ps, H b = some (.tbl ps) → ∃ more, H' b = some (.tbl (ps ++ more))
section
variable {fs fs' ex ex' : List Addr} {H H1 H2 : Hp} {h h1 h2 h' : Heap} {a x e : Addr} {o : HO}
theorem Un.any (u : Un fs ex H H1 h h1) {b : Addr} {ob : Obj} (q : h.get? b = some ob) (n : H b = none) (hx : b ∉ ex) : ∃ sl, h1.get? b = some { ob with slots := sl } := by
  by_cases hb : b ∈ fs
  · exact u.slot b ob q n hb hx
  · exact ⟨ob.slots, u.keep b ob q n hb hx⟩
theorem Un.kept (k : ∀ b u, h.get? b = some u → h'.get? b = some u) : Un fs ex H H h h' :=
  ⟨fun b ob q _ _ _ => k b ob q, fun b ob q _ _ _ => ⟨ob.slots, k b ob q⟩, fun _ _ _ n _ => n, fun b ob q _ => ⟨ob, k b ob q⟩, fun _ _ q => q, fun _ _ _ q => q, fun _ ps q => ⟨#[], by rw [q]; simp⟩⟩
theorem Un.refl : Un fs ex H H h h := Un.kept fun _ _ q => q
theorem Un.laid (k : ∀ b u, h.get? b = some u → h'.get? b = some u) (hp : h.objs.size ≤ a) (hn : H a = none) : Un fs ex H (upd H a o) h h' where
  keep := fun b u q _ _ _ => k b u q
  slot := fun b u q _ _ _ => ⟨u.slots, k b u q⟩
  free := fun b u q n _ => by rw [upd_ne (Nat.ne_of_lt (Nat.lt_of_lt_of_le (Heap.lt_size q) hp))]; exact n
  there := fun b u q _ => ⟨u, k b u q⟩
  tups := fun b xs q => by rw [upd_ne (ne_of_none q hn)]; exact q
  frzs := fun b u xs q => by rw [upd_ne (ne_of_none q hn)]; exact q
  tbls := fun b ps q => ⟨#[], by rw [upd_ne (ne_of_none q hn), q]; simp⟩
theorem Un.write (mu : Mut (H x)) (he : e = x ∨ H e = some (.own x)) (k : ∀ b u, b ≠ e → h.get? b = some u → h'.get? b = some u) (heo : ∃ u, h'.get? e = some u) : Un fs ex H (upd H x o) h h' := by
  have hx : ∀ b, H b = none → b ≠ x := fun b n z => by subst z; rw [n] at mu; exact mu
  have hb : ∀ b, H b = none → b ≠ e := fun b n z => by
    subst z
    rcases he with r | r
    · exact hx b n r
    · rw [n] at r; cases r
  have hm : ∀ b u, H b = some u → ¬ Mut (some u) → b ≠ x := fun b u q nm z => by subst z; rw [q] at mu; exact nm mu
  refine ⟨fun b u q n _ _ => k b u (hb b n) q, fun b u q n _ _ => ⟨u.slots, k b u (hb b n) q⟩, fun b u q n _ => by rw [upd_ne (hx b n)]; exact n, fun b u q _ => ?_,
    fun b xs q => by rw [upd_ne (hm b _ q fun z => z)]; exact q, fun b u xs q => by rw [upd_ne (hm b _ q fun z => z)]; exact q, fun b ps q => ⟨#[], by rw [upd_ne (hm b _ q fun z => z), q]; simp⟩⟩
  by_cases hbe : b = e
  · subst hbe; exact heo
  · exact ⟨u, k b u hbe q⟩
end
/-! ### the heap without what is tracked -/
def trk (h : Heap) (H : Hp) : List Addr := (List.range h.objs.size).filter fun a => (H a).isSome
def hidT (h : Heap) (H : Hp) : Heap := PySem.W.hideAll h (trk h H)
theorem hidT_size (h : Heap) (H : Hp) : (hidT h H).objs.size = h.objs.size := PySem.W.hideAll_size _ _
theorem hidT_get {h : Heap} {H : Hp} {b : Addr} {o : Obj} (e : h.get? b = some o) (n : H b = none) : (hidT h H).get? b = some o :=
  PySem.W.hideAll_get _ e fun hm => by
    have q : (H b).isSome = true := (List.mem_filter.mp hm).2
    rw [n] at q; simp at q
theorem of_hidT {h : Heap} {H : Hp} {b : Addr} {o : Obj} (e : (hidT h H).get? b = some o) : h.get? b = some o ∧ H b = none := by
  have e' : h.get? b = some o := PySem.W.of_hideAll (trk h H) e
  refine ⟨e', ?_⟩
  cases q : H b with
  | none => rfl
  | some x =>
    have hm : b ∈ trk h H := List.mem_filter.mpr ⟨List.mem_range.mpr (Heap.lt_size e'), by simp [q]⟩
    have z : (hidT h H).get? b = none := PySem.W.hideAll_none (trk h H) hm
    rw [z] at e; cases e
/-! ### OpenK's ledger, filled with every new object but one -/
end L2
namespace L2
open PySem PySem.Spec PyProof.Rows
/-- the module's facts, over the base: the heap at the law's entry without what is tracked there -/
structure Mod (K : PySem.W.Frag) (mg : Str → Option Value) (base : Heap) : Prop where
  kin : K.In base
  glob : base.Ns mainGlobals mg
  blt : ∃ mb, base.Ns builtinsNs mb ∧ ∀ x : Str, x ≠ "__name__" → mb x = bootBuiltins x
  nolimit : base.NoLimit
/-- the context: a def's body (or a comprehension's block) running. base: fixed through the whole law; s₀, H₀: the entry; outer: the frames whose slots others may change (a def's callers); stack: all frames that run;
   ex: iterators that were made ahead of the entry and are walked here (a comprehension's); fn: the names whose cells were made at the entry (a def: all; a comprehension's block: its own); calm: not within an except suite; pn: pins that every state bears; xe: what is wanted of an exception that leaves the code -/
structure Cx where
  prog : Program
  w : World
  K : PySem.W.Frag
  mg : Str → Option Value
  base : Heap
  A : Around
  N : List Str
  s_0 : Shared
  H_0 : Hp
  env : Env
  outer : List Env
  stack : List Env
  ex : List Addr
  fn : Str → Bool
  calm : Bool
  pn : List (Addr × Obj)
  xe : Value → Shared → Prop
/-- the callers' frames -/
def frs (l : List Env) : List Addr := l.filterMap (·.frame)
abbrev Cx.fs (X : Cx) : List Addr := frs X.outer
def Vis (sc : Scope) (x : Str) : Prop := sc.names.lookup x = some .local ∨ sc.names.lookup x = some .cell ∨ sc.names.lookup x = some .free
def Loc (sc : Scope) (x : Str) : Prop := sc.names.lookup x = some .local ∨ sc.names.lookup x = some .cell
def Look (env : Env) (h : Heap) (m : Str → Option Value) (x : Str) (u : Value) : Prop :=
  (env.kindOf x = some .local ∧ m x = some u) ∨ ((env.kindOf x = some .cell ∨ env.kindOf x = some .free) ∧ ∃ c, env.cells.lookup x = some c ∧ h.IsCell c (some u))
structure Cx.Ok (X : Cx) : Prop where
  mod : Mod X.K X.mg X.base
  kind : X.env.scope.kind = .function
  glob : X.env.globals = mainGlobals
  blt : X.env.builtins = builtinsNs
  above : X.s_0.heap.objs.size ≤ X.env.locals
  inj : ∀ x y c, X.env.cells.lookup x = some c → X.env.cells.lookup y = some c → x = y
  has : ∀ x, (X.env.kindOf x = some .cell ∨ X.env.kindOf x = some .free) → ∃ c, X.env.cells.lookup x = some c
  cab : ∀ x c, X.fn x = true → X.env.cells.lookup x = some c → X.s_0.heap.objs.size ≤ c
  hd : X.calm = true → X.A.handled = none
  frames : X.A.frames = some X.stack
  stk : X.stack = X.outer ∨ (X.stack = X.env :: X.outer ∧ X.env.frame = some X.env.locals)
  exf : ∀ b ∈ X.ex, b ≠ X.env.locals ∧ ∀ x c, X.env.cells.lookup x = some c → c ≠ b
  bs : ∀ b o, X.base.get? b = some o → X.s_0.heap.get? b = some o ∧ X.H_0 b = none
  bsz : X.base.objs.size ≤ X.s_0.heap.objs.size
  noex : ∀ b o, X.base.get? b = some o → b ∉ X.ex
  exfs : ∀ b ∈ X.ex, b ∉ X.fs
  funs : X.s_0.heap.FunFrames X.base X.outer
  frf : ∀ b ∈ X.fs, X.H_0 b = none
structure Inv (X : Cx) (pins : List (Addr × Obj)) (σ : List (Option V)) (H : Hp) (s : Shared) : Prop where
  ok : X.Ok
  os : s.os = X.s_0.os
  bare : AllBare s.gens
  base : Un X.fs X.ex X.H_0 H X.s_0.heap s.heap
  loc : ∃ m, s.heap.Ns X.env.locals m ∧ ∀ (i : Nat) (x : Str) (v : V), X.N[i]? = some x → σ[i]? = some (some v) → Vis X.env.scope x → ∃ u, RelV v u ∧ Look X.env s.heap m x u
  cell : ∀ x c, X.env.cells.lookup x = some c → ∃ v, s.heap.IsCell c v
  free : H X.env.locals = none
  freeC : ∀ x c, X.env.cells.lookup x = some c → H c = none
  pin : ∀ p ∈ X.pn ++ pins, s.heap.get? p.1 = some p.2 ∧ H p.1 = none ∧ p.1 ≠ X.env.locals ∧ p.1 ∉ X.fs ∧ ∀ v, p.2.data ≠ .cell v
  hok : HOk X.prog X.w H s.heap
  len : σ.length = X.N.length
section
variable {X : Cx} {pins : List (Addr × Obj)} {σ : List (Option V)} {H H' : Hp} {s : Shared} {h' : Heap}
theorem Cx.Ok.nofr (ok : X.Ok) {b : Addr} {o : Obj} (e : X.base.get? b = some o) : b ∉ X.fs := fun hb => by
  have := (ok.funs.mem hb).1
  rw [e] at this; cases this
theorem Inv.bs (I : Inv X pins σ H s) : ∀ b o, X.base.get? b = some o → s.heap.get? b = some o ∧ H b = none := fun b o e =>
  ⟨I.base.keep b o (I.ok.bs b o e).1 (I.ok.bs b o e).2 (I.ok.nofr e) (I.ok.noex b o e), I.base.free b o (I.ok.bs b o e).1 (I.ok.bs b o e).2 (I.ok.noex b o e)⟩
theorem Inv.bk (I : Inv X pins σ H s) : ∀ b o, X.base.get? b = some o → s.heap.get? b = some o := fun b o e => (I.bs b o e).1
theorem Inv.mod (I : Inv X pins σ H s) : Mod X.K X.mg X.base := I.ok.mod
theorem Inv.kIn (I : Inv X pins σ H s) : X.K.In s.heap := I.ok.mod.kin.keeps I.bk
/-- the frame over the base: for OpenK's rules (K.In X.base is I.mod.kin) -/
theorem Inv.fr (I : Inv X pins σ H s) : ∃ m, Fr X.base X.env.locals s.heap m :=
  let ⟨m, hn, _⟩ := I.loc
  ⟨m, hn, I.bk, Nat.le_trans I.ok.bsz I.ok.above⟩
theorem Inv.lt (I : Inv X pins σ H s) : X.env.locals < s.heap.objs.size := let ⟨_, hn, _⟩ := I.loc; hn.lt
theorem Inv.sz (I : Inv X pins σ H s) : X.s_0.heap.objs.size ≤ s.heap.objs.size := Nat.le_trans I.ok.above (Nat.le_of_lt I.lt)
theorem Inv.nofs (I : Inv X pins σ H s) {a : Addr} (h : s.heap.objs.size ≤ a) : a ∉ X.fs := fun hb => by
  obtain ⟨_, o, ho, _⟩ := I.ok.funs.mem hb
  exact absurd (Nat.lt_of_lt_of_le (Heap.lt_size ho) (Nat.le_trans I.sz h)) (Nat.lt_irrefl _)
theorem Inv.cne (I : Inv X pins σ H s) : ∀ x c, X.env.cells.lookup x = some c → c ≠ X.env.locals := fun x c e z => by
  obtain ⟨v, o, ho, hd⟩ := I.cell x c e
  obtain ⟨m, ⟨o', es, ep, ho', hd', _⟩, _⟩ := I.loc
  rw [z, ho'] at ho; cases ho; rw [hd'] at hd; cases hd
theorem Inv.funs (I : Inv X pins σ H s) : s.heap.FunFrames X.base X.outer := by
  have all : ∀ (l : List Env), (∀ b ∈ frs l, b ∈ X.fs) → X.s_0.heap.FunFrames X.base l → s.heap.FunFrames X.base l := by
    intro l
    induction l with
    | nil => intro _ _; trivial
    | cons env r ih =>
      intro hs hl
      obtain ⟨hk, ⟨L, o, hf, hn, ho, hd⟩, hr⟩ := hl
      have hL : L ∈ X.fs := hs L (by unfold frs; rw [List.filterMap_cons, hf]; exact List.mem_cons_self)
      obtain ⟨sl, e⟩ := I.base.slot L o ho (I.ok.frf L hL) hL fun z => I.ok.exfs L z hL
      exact ⟨hk, ⟨L, _, hf, hn, e, hd⟩, ih (fun b hb => hs b (by unfold frs; rw [List.filterMap_cons, hf]; exact List.mem_cons_of_mem _ hb)) hr⟩
  exact all X.outer (fun _ hb => hb) I.ok.funs
/-- the frames that run, for a call -/
theorem Inv.stack (I : Inv X pins σ H s) : s.heap.FunFrames X.base X.stack := by
  rcases I.ok.stk with e | ⟨e, hf⟩
  · rw [e]; exact I.funs
  · rw [e]
    obtain ⟨m, hn, _⟩ := I.loc
    refine .cons (by rw [I.ok.kind]; decide) hf hn ?_ I.funs
    exact Heap.get?_none_of_le (Nat.le_trans I.ok.bsz I.ok.above)
theorem Inv.stkSub (I : Inv X pins σ H s) : ∀ b ∈ frs X.stack, b ∈ X.env.locals :: X.fs := fun b hb => by
  rcases I.ok.stk with e | ⟨e, hf⟩
  · rw [e] at hb; exact List.mem_cons_of_mem _ hb
  · rw [e] at hb
    unfold frs at hb
    rw [List.filterMap_cons, hf] at hb
    exact hb
theorem Inv.stkFree (I : Inv X pins σ H s) : ∀ b ∈ frs X.stack, H b = none := fun b hb => by
  rcases List.mem_cons.mp (I.stkSub b hb) with e | hb
  · rw [e]; exact I.free
  · obtain ⟨_, o, ho, _⟩ := I.ok.funs.mem hb
    exact I.base.free b o ho (I.ok.frf b hb) fun z => I.ok.exfs b z hb
/-- THE STEP: the untracked objects but the frame and the records at ch are kept (the callers' frames up to slots), the frame's map is kept, the new abstract heap is held -/
theorem Inv.step {g' : Array GenState} {t' : Nat} {d' : Drawn} {ch : List Addr} (I : Inv X pins σ H s)
    (hch : ∀ b ∈ ch, (b ∈ X.ex ∨ X.s_0.heap.objs.size ≤ b) ∧ b ≠ X.env.locals ∧ (∀ x c, X.env.cells.lookup x = some c → c ≠ b) ∧ ∀ p ∈ X.pn ++ pins, p.1 ≠ b)
    (keep : ∀ b o, b ≠ X.env.locals → b ∉ X.fs → b ∉ ch → s.heap.get? b = some o → H b = none → h'.get? b = some o)
    (slot : ∀ b o, b ≠ X.env.locals → b ∈ X.fs → b ∉ ch → s.heap.get? b = some o → H b = none → ∃ sl, h'.get? b = some { o with slots := sl }) (free : ∀ b o, b ∉ ch → s.heap.get? b = some o → H b = none → H' b = none)
    (there : ∀ b o, b ∉ ch → s.heap.get? b = some o → ∃ o', h'.get? b = some o')
    (tups : ∀ b xs, H b = some (.tup xs) → H' b = some (.tup xs)) (frzs : ∀ b o u, H b = some (.frz o u) → H' b = some (.frz o u)) (tbls : ∀ b ps, H b = some (.tbl ps) → ∃ more, H' b = some (.tbl (ps ++ more)))
    (ns : ∀ m, s.heap.Ns X.env.locals m → h'.Ns X.env.locals m) (hok : HOk X.prog X.w H' h') (hg : AllBare g') :
    Inv X pins σ H' { s with heap := h', gens := g', drawn := d', toks := t' } := by
  have neL : ∀ b o, X.s_0.heap.get? b = some o → b ≠ X.env.locals := fun b o e => Nat.ne_of_lt (Nat.lt_of_lt_of_le (Heap.lt_size e) I.ok.above)
  have neC : ∀ b o, X.s_0.heap.get? b = some o → b ∉ X.ex → b ∉ ch := fun b o e hx hb => by
    rcases (hch b hb).1 with z | z
    · exact hx z
    · exact absurd (Nat.lt_of_lt_of_le (Heap.lt_size e) z) (Nat.lt_irrefl _)
  have cellK : ∀ x c, X.env.cells.lookup x = some c → ∀ v, s.heap.IsCell c v → h'.IsCell c v := fun x c e v ⟨o, ho, hd⟩ => by
    have nch : c ∉ ch := fun z => (hch c z).2.2.1 x c e rfl
    by_cases hc : c ∈ X.fs
    · obtain ⟨sl, q⟩ := slot c o (I.cne x c e) hc nch ho (I.freeC x c e)
      exact ⟨_, q, hd⟩
    · exact ⟨o, keep c o (I.cne x c e) hc nch ho (I.freeC x c e), hd⟩
  refine ⟨I.ok, I.os, hg, ⟨fun b o e n hb hx => ?_, fun b o e n hb hx => ?_, fun b o e n hx => ?_, fun b o e hx => ?_, fun b xs e => tups b xs (I.base.tups b xs e), fun b o xs e => frzs b o xs (I.base.frzs b o xs e), fun b ps e => ?_⟩, ?_, fun x c e => ?_, ?_, fun x c e => ?_, fun p hp => ?_, hok, I.len⟩
  · exact keep b o (neL b o e) hb (neC b o e hx) (I.base.keep b o e n hb hx) (I.base.free b o e n hx)
  · obtain ⟨sl, e1⟩ := I.base.slot b o e n hb hx
    obtain ⟨sl', e2⟩ := slot b _ (neL b o e) hb (neC b o e hx) e1 (I.base.free b o e n hx)
    exact ⟨sl', e2⟩
  · obtain ⟨o', e1⟩ := I.base.there b o e hx
    exact free b o' (neC b o e hx) e1 (I.base.free b o e n hx)
  · obtain ⟨o', e1⟩ := I.base.there b o e hx
    exact there b o' (neC b o e hx) e1
  · obtain ⟨m1, e1⟩ := I.base.tbls b ps e
    obtain ⟨m2, e2⟩ := tbls b _ e1
    exact ⟨m1 ++ m2, by rw [e2, Array.append_assoc]⟩
  · obtain ⟨m, hn, hl⟩ := I.loc
    refine ⟨m, ns m hn, fun i x v e1 e2 e3 => ?_⟩
    obtain ⟨u, r, l⟩ := hl i x v e1 e2 e3
    refine ⟨u, r, ?_⟩
    rcases l with l | ⟨k, c, e, z⟩
    · exact .inl l
    · exact .inr ⟨k, c, e, cellK x c e _ z⟩
  · obtain ⟨v, z⟩ := I.cell x c e
    exact ⟨v, cellK x c e v z⟩
  · obtain ⟨m, ⟨o, _, _, ho, _⟩, _⟩ := I.loc
    exact free _ o (fun z => (hch _ z).2.1 rfl) ho I.free
  · obtain ⟨v, o, ho, hd⟩ := I.cell x c e
    exact free c o (fun z => (hch c z).2.2.1 x c e rfl) ho (I.freeC x c e)
  · obtain ⟨e, n, ne, nf, d⟩ := I.pin p hp
    have nch : p.1 ∉ ch := fun z => (hch p.1 z).2.2.2 p hp rfl
    exact ⟨keep p.1 p.2 ne nf nch e n, free p.1 p.2 nch e n, ne, nf, d⟩
/-- .. where the frame's own object is kept too -/
theorem Inv.un {t' : Nat} (I : Inv X pins σ H s) (u : Un X.fs [] H H' s.heap h') (hok : HOk X.prog X.w H' h') : Inv X pins σ H' { s with heap := h', toks := t' } := by
  obtain ⟨m, ⟨o, es, ep, ho, r⟩, _⟩ := id I.loc
  obtain ⟨sl, hL⟩ := u.any ho I.free (by simp)
  exact I.step (g' := s.gens) (d' := s.drawn) (ch := []) (fun _ z => nomatch z) (fun b o _ hb _ e n => u.keep b o e n hb (by simp)) (fun b o _ hb _ e n => u.slot b o e n hb (by simp)) (fun b o _ e n => u.free b o e n (by simp)) (fun b o _ e => u.there b o e (by simp)) u.tups u.frzs u.tbls (fun m' hm => by
    obtain ⟨o', es', ep', ho', r'⟩ := hm
    rw [ho] at ho'; cases ho'
    exact ⟨_, es', ep', hL, r'⟩) hok I.bare
/-- behind a call (or a comprehension's block): the slots of this frame may have changed too, the records at ch may have turned -/
theorem Inv.call {g' : Array GenState} {t' : Nat} {d' : Drawn} {ch : List Addr} (I : Inv X pins σ H s) (u : Un (frs X.stack) ch H H' s.heap h') (hok : HOk X.prog X.w H' h') (hg : AllBare g')
    (hch : ∀ b ∈ ch, (b ∈ X.ex ∨ X.s_0.heap.objs.size ≤ b) ∧ b ≠ X.env.locals ∧ (∀ x c, X.env.cells.lookup x = some c → c ≠ b) ∧ ∀ p ∈ X.pn ++ pins, p.1 ≠ b) :
    Inv X pins σ H' { s with heap := h', gens := g', drawn := d', toks := t' } := by
  obtain ⟨m, ⟨o, es, ep, ho, r⟩, _⟩ := id I.loc
  obtain ⟨sl, hL⟩ := u.any ho I.free fun z => (hch _ z).2.1 rfl
  exact I.step (ch := ch) hch (fun b o hL hb hc e n => u.keep b o e n (fun z => (List.mem_cons.mp (I.stkSub b z)).elim hL hb) hc) (fun b o _ _ hc e n => u.any e n hc) (fun b o hc e n => u.free b o e n hc) (fun b o hc e => u.there b o e hc) u.tups u.frzs u.tbls (fun m' hm => by
    obtain ⟨o', es', ep', ho', r'⟩ := hm
    rw [ho] at ho'; cases ho'
    exact ⟨_, es', ep', hL, r'⟩) hok hg
/-- an untracked record of ours (an iterator) has turned -/
theorem Inv.turned {t' : Nat} {it : Addr} (I : Inv X pins σ H s) (k : ∀ b o, b ≠ it → s.heap.get? b = some o → h'.get? b = some o) (hn : H it = none) (hL : it ≠ X.env.locals)
    (h1 : it ∈ X.ex ∨ X.s_0.heap.objs.size ≤ it) (h2 : ∀ x c, X.env.cells.lookup x = some c → c ≠ it) (h3 : ∀ p ∈ X.pn ++ pins, p.1 ≠ it) : Inv X pins σ H { s with heap := h', toks := t' } := by
  have nit : ∀ b u, H b = some u → b ≠ it := fun b u e z => by rw [z, hn] at e; cases e
  refine I.step (g' := s.gens) (d' := s.drawn) (ch := [it]) (fun b hb => ?_) (fun b o _ _ hc e _ => k b o (fun z => hc (by simp [z])) e) (fun b o _ _ hc e _ => ⟨o.slots, k b o (fun z => hc (by simp [z])) e⟩) (fun _ _ _ _ n => n)
    (fun b o hc e => ⟨o, k b o (fun z => hc (by simp [z])) e⟩) (fun _ _ e => e) (fun _ _ _ e => e) (fun b ps e => ⟨#[], by rw [e]; simp⟩) (fun m hm => ?_) (fun b u e => ?_) I.bare
  · have e : b = it := by simpa using hb
    subst e
    exact ⟨h1, hL, h2, h3⟩
  · obtain ⟨o, es, ep, ho, r⟩ := hm
    exact ⟨o, es, ep, k _ o (Ne.symm hL) ho, r⟩
  · refine (I.hok b u e).stay (fun c v hc q => k c v ?_ q) (fun _ q => q) fun _ _ q => q
    rcases hc with z | z
    · rw [z]; exact nit b u e
    · exact nit c _ z
theorem Inv.tok (I : Inv X pins σ H s) (t : Nat) : Inv X pins σ H { s with toks := t } := I.un (h' := s.heap) (t' := t) Un.refl I.hok
/-- all objects kept -/
theorem Inv.kept {t' : Nat} (I : Inv X pins σ H s) (k : ∀ b u, s.heap.get? b = some u → h'.get? b = some u) : Inv X pins σ H { s with heap := h', toks := t' } := I.un (Un.kept k) (I.hok.kept k)
/-- a new object laid and tracked -/
theorem Inv.laid {a : Addr} {o : HO} {t' : Nat} (I : Inv X pins σ H s) (k : ∀ b u, s.heap.get? b = some u → h'.get? b = some u) (hp : s.heap.objs.size ≤ a) (new : ObjOk X.prog X.w (upd H a o) h' a o) :
    Inv X pins σ (upd H a o) { s with heap := h', toks := t' } := I.un (Un.laid k hp (I.hok.fresh hp)) (I.hok.laid k hp new)
/-- an object written -/
theorem Inv.write {x e : Addr} {o : HO} {t' : Nat} (I : Inv X pins σ H s) (mu : Mut (H x)) (he : e = x ∨ H e = some (.own x)) (k : ∀ b u, b ≠ e → s.heap.get? b = some u → h'.get? b = some u) (heo : ∃ u, h'.get? e = some u)
    (new : ObjOk X.prog X.w (upd H x o) h' x o) : Inv X pins σ (upd H x o) { s with heap := h', toks := t' } := I.un (Un.write mu he k heo) (I.hok.write mu he k heo new)
/-- forgetting slots, pins -/
theorem Inv.weak {σ' : List (Option V)} (I : Inv X pins σ H s) (hl : σ'.length = σ.length) (w : ∀ (i : Nat) v, σ'[i]? = some (some v) → σ[i]? = some (some v)) : Inv X pins σ' H s :=
  ⟨I.ok, I.os, I.bare, I.base, let ⟨m, hn, hl'⟩ := I.loc; ⟨m, hn, fun i x v e1 e2 e3 => hl' i x v e1 (w i v e2) e3⟩, I.cell, I.free, I.freeC, I.pin, I.hok, hl.trans I.len⟩
theorem Inv.pins_of {pins' : List (Addr × Obj)} (I : Inv X pins σ H s) (h : ∀ p ∈ pins', s.heap.get? p.1 = some p.2 ∧ H p.1 = none ∧ p.1 ≠ X.env.locals ∧ p.1 ∉ X.fs ∧ ∀ v, p.2.data ≠ .cell v) : Inv X pins' σ H s :=
  ⟨I.ok, I.os, I.bare, I.base, I.loc, I.cell, I.free, I.freeC, fun p hp => (List.mem_append.mp hp).elim (fun z => I.pin p (List.mem_append_left _ z)) (h p), I.hok, I.len⟩
theorem nodup_ix {N : List Str} (hN : N.Nodup) {i j : Nat} {x : Str} (a : N[i]? = some x) (b : N[j]? = some x) : i = j := by
  obtain ⟨h1, e1⟩ := List.getElem?_eq_some_iff.mp a
  obtain ⟨h2, e2⟩ := List.getElem?_eq_some_iff.mp b
  exact (List.getElem_inj hN).mp (e1.trans e2.symm)
/-- a name is stored; what changed -/
theorem store_ok2 {M : Model} {A : Around} {E : Value → Shared → Prop} {i : Nat} {x : Str} {v : V} {u : Value} {Q : Unit → Shared → Prop} (I : Inv X pins σ H s) (hN : X.N.Nodup) (hi : X.N[i]? = some x) (hx : Loc X.env.scope x) (r : RelV v u)
    (h : ∀ s', Inv X pins (σ.set i (some v)) H s' → (∃ a, Heap.SameBut a s.heap s'.heap ∧ (a = X.env.locals ∨ X.env.cells.lookup x = some a)) → Q () s') (hf : X.fn x = true ∨ X.env.scope.names.lookup x = some .local := by first | exact .inl rfl | exact .inr rfl | assumption) : wpAny M A (storeName X.env x u) Q E s := by
  obtain ⟨m, hn, hl⟩ := id I.loc
  have hcls : (X.env.scope.kind == .class || (X.env.scope.kind == .module && X.env.locals != X.env.globals)) = false := by rw [I.ok.kind]; rfl
  have hiσ : i < σ.length := by rw [I.len]; exact (List.getElem?_eq_some_iff.mp hi).1
  have cne := I.cne
  have tracked : ∀ {a : Addr} {h' : Heap}, (∃ o, s.heap.get? a = some o ∧ H a = none) → Heap.SameBut a s.heap h' → HOk X.prog X.w H h' := fun {a h'} ha hs b ob e => by
    obtain ⟨_, _, hfree⟩ := ha
    refine (I.hok b ob e).stay (fun c w' hc q => (hs.2 c ?_).trans q) (fun _ q => q) fun _ _ q => q
    rintro rfl
    rcases hc with rfl | hc
    · rw [hfree] at e; cases e
    · rw [hfree] at hc; cases hc
  rcases hx with hk | hk
  · refine wpAny_storeName_local hk hn (fun h' hn' hs => ?_) hcls
    obtain ⟨oL, _, _, hoL, _⟩ := id hn
    refine h _ ⟨I.ok, I.os, I.bare, ⟨fun b o e n hb hx => ?_, fun b o e n hb hx => ?_, I.base.free, fun b o e hx => ?_, I.base.tups, I.base.frzs, I.base.tbls⟩, ⟨_, hn', fun j y v' e1 e2 e3 => ?_⟩, fun y c e => ?_, I.free, I.freeC, fun p hp => ?_, tracked ⟨oL, hoL, I.free⟩ hs, by simpa using I.len⟩ ⟨_, hs, .inl rfl⟩
    · exact (hs.2 b (Nat.ne_of_lt (Nat.lt_of_lt_of_le (Heap.lt_size e) I.ok.above))).trans (I.base.keep b o e n hb hx)
    · obtain ⟨sl, e1⟩ := I.base.slot b o e n hb hx
      exact ⟨sl, (hs.2 b (Nat.ne_of_lt (Nat.lt_of_lt_of_le (Heap.lt_size e) I.ok.above))).trans e1⟩
    · obtain ⟨o', e1⟩ := I.base.there b o e hx
      exact ⟨o', (hs.2 b (Nat.ne_of_lt (Nat.lt_of_lt_of_le (Heap.lt_size e) I.ok.above))).trans e1⟩
    · by_cases hj : j = i
      · subst hj
        rw [hi] at e1; cases e1
        rw [List.getElem?_set_self hiσ] at e2
        cases e2
        exact ⟨u, r, .inl ⟨hk, by simp⟩⟩
      · rw [List.getElem?_set_ne (Ne.symm hj)] at e2
        obtain ⟨u', r', q⟩ := hl j y v' e1 e2 e3
        refine ⟨u', r', ?_⟩
        rcases q with ⟨k, e⟩ | ⟨k, c, e, z⟩
        · refine .inl ⟨k, ?_⟩
          have : y ≠ x := fun e => hj (nodup_ix hN e1 (e ▸ hi))
          simp [this, e]
        · exact .inr ⟨k, c, e, z.sameBut hs (cne y c e)⟩
    · obtain ⟨w', z⟩ := I.cell y c e
      exact ⟨w', z.sameBut hs (cne y c e)⟩
    · obtain ⟨e, n, ne, nf, d⟩ := I.pin p hp
      exact ⟨(hs.2 p.1 ne).trans e, n, ne, nf, d⟩
  · have hfn : X.fn x = true := by
      rcases hf with z | z
      · exact z
      · rw [z] at hk; cases hk
    obtain ⟨c, hc⟩ := I.ok.has x (.inl hk)
    obtain ⟨w', z⟩ := I.cell x c hc
    refine wpAny_storeName_cell I.ok.kind hk hc z (fun h' hc' hs => ?_)
    obtain ⟨oc, hoc, hocd⟩ := id z
    refine h { s with heap := h' } ⟨I.ok, I.os, I.bare, ⟨fun b o e n hb hx => ?_, fun b o e n hb hx => ?_, I.base.free, fun b o e hx => ?_, I.base.tups, I.base.frzs, I.base.tbls⟩, ⟨m, hn.sameBut hs (Ne.symm (cne x c hc)), fun j y v' e1 e2 e3 => ?_⟩, fun y c' e => ?_, I.free, I.freeC, fun p hp => ?_, tracked ⟨oc, hoc, I.freeC x c hc⟩ hs, by simpa using I.len⟩ ⟨c, hs, .inr hc⟩
    · exact (hs.2 b (Nat.ne_of_lt (Nat.lt_of_lt_of_le (Heap.lt_size e) (I.ok.cab x c hfn hc)))).trans (I.base.keep b o e n hb hx)
    · obtain ⟨sl, e1⟩ := I.base.slot b o e n hb hx
      exact ⟨sl, (hs.2 b (Nat.ne_of_lt (Nat.lt_of_lt_of_le (Heap.lt_size e) (I.ok.cab x c hfn hc)))).trans e1⟩
    · obtain ⟨o', e1⟩ := I.base.there b o e hx
      exact ⟨o', (hs.2 b (Nat.ne_of_lt (Nat.lt_of_lt_of_le (Heap.lt_size e) (I.ok.cab x c hfn hc)))).trans e1⟩
    · by_cases hj : j = i
      · subst hj
        rw [hi] at e1; cases e1
        rw [List.getElem?_set_self hiσ] at e2
        cases e2
        exact ⟨u, r, .inr ⟨.inl hk, c, hc, hc'⟩⟩
      · rw [List.getElem?_set_ne (Ne.symm hj)] at e2
        obtain ⟨u', r', q⟩ := hl j y v' e1 e2 e3
        refine ⟨u', r', ?_⟩
        rcases q with q | ⟨k, c', e, z'⟩
        · exact .inl q
        · refine .inr ⟨k, c', e, z'.sameBut hs ?_⟩
          rintro rfl
          exact hj (nodup_ix hN e1 (I.ok.inj _ _ _ e hc ▸ hi))
    · by_cases hcc : c' = c
      · subst hcc; exact ⟨_, hc'⟩
      · obtain ⟨w2, z2⟩ := I.cell y c' e
        exact ⟨w2, z2.sameBut hs hcc⟩
    · obtain ⟨e, n, ne, nf, d⟩ := I.pin p hp
      refine ⟨(hs.2 p.1 ?_).trans e, n, ne, nf, d⟩
      intro q
      rw [q, hoc] at e
      have q' : oc = p.2 := Option.some.inj e
      exact d w' (by rw [← q']; exact hocd)
theorem store_ok {M : Model} {A : Around} {E : Value → Shared → Prop} {i : Nat} {x : Str} {v : V} {u : Value} {Q : Unit → Shared → Prop} (I : Inv X pins σ H s) (hN : X.N.Nodup) (hi : X.N[i]? = some x) (hx : Loc X.env.scope x) (r : RelV v u)
    (h : ∀ s', Inv X pins (σ.set i (some v)) H s' → Q () s') (hf : X.fn x = true ∨ X.env.scope.names.lookup x = some .local := by first | exact .inl rfl | exact .inr rfl | assumption) : wpAny M A (storeName X.env x u) Q E s :=
  store_ok2 I hN hi hx r (fun s' I' _ => h s' I') hf
/-- behind a call or a block, the state as it is -/
theorem Inv.call' {s' : Shared} {ch : List Addr} (I : Inv X pins σ H s) (ho : s'.os = s.os) (u : Un (frs X.stack) ch H H' s.heap s'.heap) (hok : HOk X.prog X.w H' s'.heap) (hg : AllBare s'.gens)
    (hch : ∀ b ∈ ch, (b ∈ X.ex ∨ X.s_0.heap.objs.size ≤ b) ∧ b ≠ X.env.locals ∧ (∀ x c, X.env.cells.lookup x = some c → c ≠ b) ∧ ∀ p ∈ X.pn ++ pins, p.1 ≠ b) : Inv X pins σ H' s' := by
  obtain ⟨h', g', d', t', o'⟩ := s'
  have e : o' = s.os := ho
  subst e
  exact I.call (g' := g') (t' := t') (d' := d') u hok hg hch
end
/-! ### the judgements -/
/-- an exception: its class, its own dict's address (where it has one), the abstract heap behind it -/
abbrev XK := Value → Option Addr → Hp → Prop
abbrev St := List (Option V)
abbrev VK := V → Hp → Prop
/-- an expression's reading; a test's; an argument list's -/
abbrev TE := St → Hp → VK → Prop
abbrev TT := St → Hp → (Bool → Hp → Prop) → Prop
abbrev TA := St → Hp → (List V → Hp → Prop) → Prop
/-- what is wanted behind a statement -/
structure Ends where
  nx : St → Hp → Prop
  rt : VK
  bk : St → Hp → Prop := fun _ _ => False
  ct : St → Hp → Prop := fun _ _ => False
abbrev TS := Ends → St → Hp → Prop
def EP (X : Cx) (pins : List (Addr × Obj)) (σ : St) (Q : VK) (u : Value) (s' : Shared) : Prop := ∃ v H', Inv X pins σ H' s' ∧ RelV v u ∧ Q v H'
def TP (X : Cx) (pins : List (Addr × Obj)) (σ : St) (Q : Bool → Hp → Prop) (b : Bool) (s' : Shared) : Prop := ∃ H', Inv X pins σ H' s' ∧ Q b H'
def AP (X : Cx) (pins : List (Addr × Obj)) (σ : St) (Q : List V → Hp → Prop) (us : List Value) (s' : Shared) : Prop := ∃ vs H', Inv X pins σ H' s' ∧ Vals vs us ∧ Q vs H'
def SP (X : Cx) (pins : List (Addr × Obj)) (D : Ends) (f : Flow) (s' : Shared) : Prop :=
  match f with
  | .next => ∃ σ' H', Inv X pins σ' H' s' ∧ D.nx σ' H'
  | .brk => ∃ σ' H', Inv X pins σ' H' s' ∧ D.bk σ' H'
  | .cont => ∃ σ' H', Inv X pins σ' H' s' ∧ D.ct σ' H'
  | .ret u => ∃ v σ' H', Inv X pins σ' H' s' ∧ RelV v u ∧ D.rt v H'
def PE (X : Cx) (e : Expr) (t : TE) : Prop :=
  ∀ (pins : List (Addr × Obj)) (s : Shared) (σ : St) (H : Hp) (Q : VK), Inv X pins σ H s → t σ H Q → wpAny (model X.prog X.w) X.A (eval e X.env) (EP X pins σ Q) X.xe s
def PT (X : Cx) (e : Expr) (t : TT) : Prop :=
  ∀ (pins : List (Addr × Obj)) (s : Shared) (σ : St) (H : Hp) (Q : Bool → Hp → Prop), Inv X pins σ H s → t σ H Q → wpAny (model X.prog X.w) X.A (isTrue e X.env (eval e X.env)) (TP X pins σ Q) X.xe s
/-- a test whatever its 'whole' is (and, or) -/
def PW (X : Cx) (e : Expr) (t : TT) : Prop :=
  ∀ (whole : Sem Value) (pins : List (Addr × Obj)) (s : Shared) (σ : St) (H : Hp) (Q : Bool → Hp → Prop), Inv X pins σ H s → t σ H Q → wpAny (model X.prog X.w) X.A (isTrue e X.env whole) (TP X pins σ Q) X.xe s
theorem PW.pt {X : Cx} {e : Expr} {t : TT} (h : PW X e t) : PT X e t := h _
/-- an argument list (no star), from the left -/
def PA (X : Cx) (es : List Expr) (t : TA) : Prop :=
  ∀ (pos : Pos) (pins : List (Addr × Obj)) (s : Shared) (σ : St) (H : Hp) (Q : List V → Hp → Prop), Inv X pins σ H s → t σ H Q → wpAny (model X.prog X.w) X.A (spliced (backTo pos (starEach es X.env))) (AP X pins σ Q) X.xe s
def PS (X : Cx) (st : Stmt) (t : TS) : Prop :=
  ∀ (pins : List (Addr × Obj)) (s : Shared) (σ : St) (H : Hp) (D : Ends), Inv X pins σ H s → t D σ H → wpAny (model X.prog X.w) X.A (exec st X.env) (SP X pins D) X.xe s
def PSs (X : Cx) (st : List Stmt) (t : TS) : Prop :=
  ∀ (pins : List (Addr × Obj)) (s : Shared) (σ : St) (H : Hp) (D : Ends), Inv X pins σ H s → t D σ H → wpAny (model X.prog X.w) X.A (execs st X.env) (SP X pins D) X.xe s
/-- weaken the end -/
theorem thn {α : Type} {t : Sem α} {Q Q' : α → Shared → Prop} {M : Model} {A : Around} {E : Value → Shared → Prop} {s : Shared} (h : wpAny M A t Q E s) (hQ : ∀ a s, Q a s → Q' a s) : wpAny M A t Q' E s := wpAny_mono h hQ fun _ _ x => x
end L2
namespace L2
open PySem PySem.Spec PyProof.Rows
section
variable {X : Cx}
/-- two expressions in a row -/
theorem bin {a b : Expr} {ta tb : TE} (ha : PE X a ta) (hb : PE X b tb) {pins : List (Addr × Obj)} {s : Shared} {σ : St} {H : Hp} {R : V → V → Hp → Prop} (I : Inv X pins σ H s) (h : ta σ H fun x H1 => tb σ H1 fun y H2 => R x y H2)
    {α : Type} {Q : α → Shared → Prop} {f : Value → Value → Sem α}
    (hf : ∀ v u s2 x y H2, Inv X pins σ H2 s2 → RelV x v → RelV y u → R x y H2 → wpAny (model X.prog X.w) X.A (f v u) Q X.xe s2) :
    wpAny (model X.prog X.w) X.A (eval a X.env) (fun v s₁ => wpAny (model X.prog X.w) X.A (eval b X.env) (fun u s₂ => wpAny (model X.prog X.w) X.A (f v u) Q X.xe s₂) X.xe s₁) X.xe s := by
  refine thn (ha pins s σ H _ I h) fun v s1 ⟨x, H1, I1, r1, q1⟩ => ?_
  refine thn (hb pins s1 σ H1 _ I1 q1) fun u s2 ⟨y, H2, I2, r2, q2⟩ => ?_
  exact hf v u s2 x y H2 I2 r1 r2 q2
/-! ### names and constants -/
def tVar (i : Nat) : TE := fun σ H Q => ∃ v, σ[i]? = some (some v) ∧ Q v H
def tC (v : V) : TE := fun _ H Q => Q v H
theorem pe_var {i : Nat} {x : Str} {pos : Pos} (hN : X.N[i]? = some x) (hv : Vis X.env.scope x) (hd : (x == ("__debug__" : Str)) = false := by decide) (hcd : (x == ("__classdict__" : Str)) = false := by decide) : PE X (.Name x pos) (tVar i) := by
  intro pins s σ H Q I h
  obtain ⟨v, e, h⟩ := h
  obtain ⟨m, hn, hl⟩ := I.loc
  obtain ⟨u, r, l⟩ := hl i x v hN e hv
  have fin : EP X pins σ Q u s := ⟨v, H, I, r, h⟩
  rcases l with ⟨hk, hm⟩ | ⟨hk, c, hc, hcell⟩
  · exact wpAny_Name (wpAny_loadName_local I.ok.kind hk hn hm fin) hd
  · rcases hk with hk | hk
    · exact wpAny_Name (wpAny_loadName_cell I.ok.kind hk hc hcell fin) hd
    · exact wpAny_Name (wpAny_loadName_free I.ok.kind hk hc hcell fin hcd) hd
theorem pe_int {i j pos} : PE X (.Constant (.int i) j pos) (tC (.int i)) := fun _ _ _ H _ I h => wpAny_Constant_int ⟨.int i, H, I.tok _, ⟨_, rfl⟩, h⟩
/-- a global name of the def -/
def Gl (X : Cx) (x : Str) : Prop := X.env.kindOf x = some .globalImplicit
theorem ld_glob {E : Value → Shared → Prop} {pins : List (Addr × Obj)} {s : Shared} {σ : St} {H : Hp} {x : Str} {u : Value} {pos : Pos} {Q : Value → Shared → Prop} (I : Inv X pins σ H s) (hg : Gl X x) (hm : X.mg x = some u) (h : Q u s)
    (hd : (x == ("__debug__" : Str)) = false := by decide) : wpAny (model X.prog X.w) X.A (eval (.Name x pos) X.env) Q E s :=
  Calls.Name_function_global I.ok.kind hg (Calls.loadGlobal_global (by rw [I.ok.glob]; exact I.mod.glob.keeps I.bk) hm h) hd
theorem ld_blt {E : Value → Shared → Prop} {pins : List (Addr × Obj)} {s : Shared} {σ : St} {H : Hp} {x : Str} {u : Value} {pos : Pos} {Q : Value → Shared → Prop} (I : Inv X pins σ H s) (hg : Gl X x) (hm : X.mg x = none) (hv : bootBuiltins x = some u) (h : Q u s)
    (hn : x ≠ "__name__" := by decide) (hd : (x == ("__debug__" : Str)) = false := by decide) : wpAny (model X.prog X.w) X.A (eval (.Name x pos) X.env) Q E s := by
  obtain ⟨mb, h1, h2⟩ := I.mod.blt
  exact Calls.Name_function_global I.ok.kind hg (Calls.loadGlobal_builtin (by rw [I.ok.glob]; exact I.mod.glob.keeps I.bk) hm (by rw [I.ok.blt]; exact h1.keeps I.bk) ((h2 x hn).trans hv) h) hd
/-- a module's constant, a class, a function, as a value -/
theorem pe_glob {x : Str} {v : V} {u : Value} {pos : Pos} (hg : Gl X x) (hm : X.mg x = some u) (r : RelV v u) (hd : (x == ("__debug__" : Str)) = false := by decide) : PE X (.Name x pos) (tC v) :=
  fun _ _ _ H _ I h => ld_glob I hg hm ⟨v, H, I, r, h⟩ hd
/-! ### arithmetic -/
variable {a b : Expr} {ta tb : TE} {pos : Pos}
/-! ### comparisons -/
/-! ### and, or, not -/
variable {tA tB' : TT} {rest : List Expr}
def tAnd (t u : TT) : TT := fun σ H Q => t σ H fun c H1 => if c = true then u σ H1 Q else Q false H1
def tOr (t u : TT) : TT := fun σ H Q => t σ H fun c H1 => if c = true then Q true H1 else u σ H1 Q
def tNot (t : TT) : TT := fun σ H Q => t σ H fun c H1 => Q (!c) H1
theorem pw_or1 (ha : PT X a tA) : PW X (.BoolOp .Or [a] pos) tA := by
  intro wh pins s σ H Q I h
  refine isTrue_or (thn (ha pins s σ H Q I h) fun c s1 e => ?_)
  cases c with
  | false => exact isTrue_or_nil e
  | true => exact e
theorem pw_or (ha : PT X a tA) (hb : PW X (.BoolOp .Or (b :: rest) pos) tB') : PW X (.BoolOp .Or (a :: b :: rest) pos) (tOr tA tB') := by
  intro wh pins s σ H Q I h
  refine isTrue_or (thn (ha pins s σ H _ I h) fun c s1 ⟨H1, I1, q1⟩ => ?_)
  cases c with
  | true => exact ⟨H1, I1, q1⟩
  | false => exact hb wh pins s1 σ H1 Q I1 q1
theorem pt_not (ha : PT X a tA) : PT X (.UnaryOp .Not a pos) (tNot tA) := by
  intro pins s σ H Q I h
  exact isTrue_not (ha pins s σ H (fun c H1 => Q (!c) H1) I h)
/-- .. as values (bools) -/
def tAndV (ta tb : TE) : TE := fun σ H Q => ta σ H fun x H1 => ∃ c, x = .bl c ∧ if c = true then tb σ H1 Q else Q (.bl false) H1
def tOrV (ta tb : TE) : TE := fun σ H Q => ta σ H fun x H1 => ∃ c, x = .bl c ∧ if c = true then Q (.bl true) H1 else tb σ H1 Q
def tNotV (ta : TE) : TE := fun σ H Q => ta σ H fun x H1 => ∃ c, x = .bl c ∧ Q (.bl (!c)) H1
theorem pe_one {op} {t : TE} (h : PE X a t) : PE X (.BoolOp op [a] pos) t := fun pins s σ H Q I hw => BoolOp_one (h pins s σ H Q I hw)
theorem pe_and (ha : PE X a ta) (hb : PE X (.BoolOp .And (b :: rest) pos) tb) : PE X (.BoolOp .And (a :: b :: rest) pos) (tAndV ta tb) := by
  intro pins s σ H Q I h
  refine BoolOp_and (thn (ha pins s σ H _ I h) fun v s1 ⟨x, H1, I1, r1, q1⟩ => ?_)
  obtain ⟨c, rfl, q1⟩ := q1
  cases r1
  refine wpAny_truthy_bool ?_
  cases c with
  | true => exact hb pins s1 σ H1 Q I1 q1
  | false => exact ⟨.bl false, H1, I1, rfl, q1⟩
/-- a if t else b -/
def tIf (t : TT) (ta tb : TE) : TE := fun σ H Q => t σ H fun c H1 => if c = true then ta σ H1 Q else tb σ H1 Q
theorem pe_ifExp {c : Expr} (hc : PT X c tA) (ha : PE X a ta) (hb : PE X b tb) : PE X (.IfExp c a b pos) (tIf tA ta tb) := by
  intro pins s σ H Q I h
  refine wpAny_IfExp (thn (hc pins s σ H _ I h) fun d s1 ⟨H1, I1, q1⟩ => ?_)
  cases d with
  | true => exact ha pins s1 σ H1 Q I1 q1
  | false => exact hb pins s1 σ H1 Q I1 q1
end
end L2
namespace L2
open PySem PySem.Spec PyProof.Rows
/-! ### a list, a tuple that is read: tracked, frozen, or an object of the module -/
def SqL (K : PySem.W.Frag) (H : Hp) (a : Addr) (xs : List V) : Prop :=
  Rd H a (.lst xs) ∨
    ∃ (o : Obj) (its : Array Value) (n : Nat), K.lookup a = some o ∧ o.cls = .type "list" ∧ o.dict = none ∧ o.data = .seq its n ∧ its.size ≤ sizeLine ∧ Vals xs its.toList
def SqT (K : PySem.W.Frag) (H : Hp) (a : Addr) (xs : List V) : Prop :=
  Rd H a (.tup xs) ∨
    ∃ (o : Obj) (its : Array Value) (n : Nat), K.lookup a = some o ∧ o.cls = .type "tuple" ∧ o.data = .seq its n ∧ its.size ≤ sizeLine ∧ Vals xs its.toList
def absV : Value → Option V
  | .none => some .non
  | .bool b => some (.bl b)
  | .int i _ => some (.int i)
  | .str x _ => some (.str x)
  | .bytes b _ => some (.byt b)
  | .float b _ => some (.flt b)
  | .ref a => some (.ref a)
  | .type n => some (.ty n)
  | _ => none
theorem RelV.abs {x : V} {u : Value} (r : RelV x u) : absV u = some x := by
  cases x with
  | non => cases r; rfl
  | bl _ => cases r; rfl
  | int _ => obtain ⟨t, rfl⟩ := r; rfl
  | str _ => obtain ⟨t, rfl⟩ := r; rfl
  | byt _ => obtain ⟨t, rfl⟩ := r; rfl
  | flt _ => obtain ⟨t, rfl⟩ := r; rfl
  | ref _ => cases r; rfl
  | ty _ => cases r; rfl
theorem RelV.inj {x y : V} {u : Value} (r : RelV x u) (q : RelV y u) : x = y := Option.some.inj (r.abs.symm.trans q.abs)
theorem Vals.inj : ∀ {xs ys : List V} {us : List Value}, Vals xs us → Vals ys us → xs = ys
  | _, _, _, .nil, .nil => rfl
  | _, _, _, .cons r t, .cons r' t' => by rw [r.inj r', Vals.inj t t']
section
variable {X : Cx} {pins : List (Addr × Obj)} {σ : St} {H : Hp} {s : Shared} {a : Addr} {xs ys : List V}
theorem SqL.of {K : PySem.W.Frag} (h : H a = some (.lst xs)) : SqL K H a xs := .inl (.inl h)
theorem SqT.of {K : PySem.W.Frag} (h : H a = some (.tup xs)) : SqT K H a xs := .inl (.inl h)
theorem Inv.list (I : Inv X pins σ H s) (h : SqL X.K H a xs) : ∃ its : List Value, Vals xs its ∧ PlainL s.heap a its.toArray ∧ xs.length ≤ sizeLine := by
  rcases h with h | ⟨o, its, n, hk, hc, hd, hs, hz, r⟩
  · obtain ⟨z, its, n, r, e⟩ := h.ok I.hok
    exact ⟨its, r, ⟨_, n, e, rfl, rfl, rfl⟩, z⟩
  · refine ⟨its.toList, r, ⟨o, n, I.kIn a o hk, hc, hd, by simpa using hs⟩, ?_⟩
    have e := r.length
    simp only [Array.length_toList] at e
    omega
theorem Inv.tuple (I : Inv X pins σ H s) (h : SqT X.K H a xs) : ∃ its : List Value, Vals xs its ∧ IsTup s.heap a its.toArray ∧ xs.length ≤ sizeLine := by
  rcases h with h | ⟨o, its, n, hk, hc, hs, hz, r⟩
  · obtain ⟨z, its, r, p⟩ := h.ok I.hok
    exact ⟨its, r, p, z⟩
  · refine ⟨its.toList, r, ⟨o, I.kIn a o hk, hc, n, by simpa using hs⟩, ?_⟩
    have e := r.length
    simp only [Array.length_toList] at e
    omega
theorem Inv.list_inj (I : Inv X pins σ H s) (h : SqL X.K H a xs) (h' : SqL X.K H a ys) : xs = ys := by
  obtain ⟨its, r, ⟨o, n, e, _, _, d⟩, _⟩ := I.list h
  obtain ⟨its', r', ⟨o', n', e', _, _, d'⟩, _⟩ := I.list h'
  rw [e] at e'; cases e'
  rw [d] at d'
  injection d' with d1 _
  have : its = its' := by simpa using congrArg Array.toList d1
  subst this
  exact r.inj r'
theorem Inv.tuple_inj (I : Inv X pins σ H s) (h : SqT X.K H a xs) (h' : SqT X.K H a ys) : xs = ys := by
  obtain ⟨its, r, ⟨o, e, _, n, d⟩, _⟩ := I.tuple h
  obtain ⟨its', r', ⟨o', e', _, n', d'⟩, _⟩ := I.tuple h'
  rw [e] at e'; cases e'
  rw [d] at d'
  injection d' with d1 _
  have : its = its' := by simpa using congrArg Array.toList d1
  subst this
  exact r.inj r'
end
/-! ### another wish about exceptions -/
abbrev Cx.wish (X : Cx) (E : Value → Shared → Prop) : Cx := { X with xe := E }
/-- no exception leaves -/
abbrev Cx.nox (X : Cx) : Cx := X.wish fun _ _ => False
theorem Cx.Ok.wish {X : Cx} (ok : X.Ok) (E : Value → Shared → Prop) : (X.wish E).Ok :=
  ⟨ok.mod, ok.kind, ok.glob, ok.blt, ok.above, ok.inj, ok.has, ok.cab, ok.hd, ok.frames, ok.stk, ok.exf, ok.bs, ok.bsz, ok.noex, ok.exfs, ok.funs, ok.frf⟩
theorem Cx.Ok.unwish {X : Cx} {E : Value → Shared → Prop} (ok : (X.wish E).Ok) : X.Ok :=
  ⟨ok.mod, ok.kind, ok.glob, ok.blt, ok.above, ok.inj, ok.has, ok.cab, ok.hd, ok.frames, ok.stk, ok.exf, ok.bs, ok.bsz, ok.noex, ok.exfs, ok.funs, ok.frf⟩
section
variable {X : Cx} {pins : List (Addr × Obj)} {σ : St} {H : Hp} {s : Shared} {E : Value → Shared → Prop}
theorem Inv.wish (I : Inv X pins σ H s) (E : Value → Shared → Prop) : Inv (X.wish E) pins σ H s := ⟨I.ok.wish E, I.os, I.bare, I.base, I.loc, I.cell, I.free, I.freeC, I.pin, I.hok, I.len⟩
theorem Inv.unwish (I : Inv (X.wish E) pins σ H s) : Inv X pins σ H s := ⟨I.ok.unwish, I.os, I.bare, I.base, I.loc, I.cell, I.free, I.freeC, I.pin, I.hok, I.len⟩
theorem SP.unwish {D : Ends} {f : Flow} {s' : Shared} (h : SP (X.wish E) pins D f s') : SP X pins D f s' := by
  cases f with
  | next => obtain ⟨σ', H', I, q⟩ := h; exact ⟨σ', H', I.unwish, q⟩
  | brk => obtain ⟨σ', H', I, q⟩ := h; exact ⟨σ', H', I.unwish, q⟩
  | cont => obtain ⟨σ', H', I, q⟩ := h; exact ⟨σ', H', I.unwish, q⟩
  | ret u => obtain ⟨v, σ', H', I, r, q⟩ := h; exact ⟨v, σ', H', I.unwish, r, q⟩
theorem PSs.nox {st : List Stmt} {t : TS} (h : PSs X.nox st t) : PSs X st t := fun pins s σ H D I hw =>
  wpAny_mono (h pins s σ H D (I.wish _) hw) (fun _ _ q => q.unwish) fun _ _ z => False.elim z
end
/-! ### blocks and small statements -/
section
variable {X : Cx} {st : Stmt} {rest : List Stmt} {t u : TS} {e : Expr} {te : TE} {pos : Pos}
def tNext : TS := fun D σ H => D.nx σ H
def tSeq (t u : TS) : TS := fun D σ H => t { D with nx := u D } σ H
theorem pss_nil : PSs X [] tNext := fun _ _ σ H _ I h => wpAny_execs_nil ⟨σ, H, I, h⟩
theorem pss_cons (h1 : PS X st t) (h2 : PSs X rest u) : PSs X (st :: rest) (tSeq t u) := by
  intro pins s σ H D I h
  refine wpAny_execs_cons (thn (h1 pins s σ H { D with nx := u D } I h) fun f s1 q => ?_)
  cases f with
  | next =>
    obtain ⟨σ', H', I', q⟩ := q
    exact h2 pins s1 σ' H' D I' q
  | ret v => exact q
  | brk => exact q
  | cont => exact q
theorem pss_one (h1 : PS X st t) : PSs X [st] t := by
  intro pins s σ H D I h
  refine wpAny_execs_cons (thn (h1 pins s σ H D I h) fun f s1 q => ?_)
  cases f with
  | next => exact wpAny_execs_nil q
  | ret v => exact q
  | brk => exact q
  | cont => exact q
/-- in a def's body nothing is shown -/
theorem Inv.quiet {pins : List (Addr × Obj)} {σ : St} {H : Hp} {s : Shared} (I : Inv X pins σ H s) : interactive X.env = false := by simp [interactive, I.ok.kind]
/-- an expression whose value is dropped -/
def tDrop (te : TE) : TS := fun D σ H => te σ H fun _ H1 => D.nx σ H1
theorem ps_expr (he : PE X e te) (hs : swapsWith e none pos.line X.env = pure false := by rfl) : PS X (.Expr e pos) (tDrop te) := by
  intro pins s σ H D I h
  exact wpAny_Expr_any (thn (he pins s σ H _ I h) fun v s1 ⟨x, H1, I1, r1, q1⟩ => ⟨σ, H1, I1, q1⟩) I.quiet hs
def tRet (te : TE) : TS := fun D σ H => te σ H D.rt
theorem ps_ret (he : PE X e te) : PS X (.Return (some e) pos) (tRet te) := by
  intro pins s σ H D I h
  exact wpAny_Return_some (thn (he pins s σ H _ I h) fun v s1 ⟨x, H1, I1, r1, q1⟩ => ⟨x, σ, H1, I1, r1, q1⟩)
def tRetN : TS := fun D _ H => D.rt .non H
def tIfS (c : TT) (t u : TS) : TS := fun D σ H => c σ H fun b H1 => if b = true then t D σ H1 else u D σ H1
theorem ps_if {c : Expr} {a b : List Stmt} {tc : TT} (hc : PT X c tc) (ha : PSs X a t) (hb : PSs X b u) : PS X (.If c a b pos) (tIfS tc t u) := by
  intro pins s σ H D I h
  refine wpAny_If (thn (hc pins s σ H _ I h) fun d s1 ⟨H1, I1, q1⟩ => ?_)
  cases d with
  | true => exact ha pins s1 σ H1 D I1 q1
  | false => exact hb pins s1 σ H1 D I1 q1
/-- code that the proof never comes to -/
def tNever : TS := fun _ _ _ => False
theorem ps_never : PS X st tNever := fun _ _ _ _ _ _ h => h.elim
end
/-! ### targets -/
abbrev TG := V → St → Hp → (St → Hp → Prop) → Prop
abbrev TGs := List V → St → Hp → (St → Hp → Prop) → Prop
def PG (X : Cx) (target : Expr) (t : TG) : Prop :=
  ∀ (pins : List (Addr × Obj)) (s : Shared) (σ : St) (H : Hp) (v : V) (u : Value) (Q : St → Hp → Prop), Inv X pins σ H s → RelV v u → t v σ H Q →
    wpAny (model X.prog X.w) X.A (assign target X.env u) (fun _ s' => ∃ σ' H', Inv X pins σ' H' s' ∧ Q σ' H') X.xe s
/-- several targets, one after another -/
def PGs (X : Cx) (ts : List Expr) (t : TGs) : Prop :=
  ∀ (pins : List (Addr × Obj)) (s : Shared) (σ : St) (H : Hp) (vs : List V) (us : List Value) (Q : St → Hp → Prop), Inv X pins σ H s → Vals vs us → t vs σ H Q →
    wpAny (model X.prog X.w) X.A (assignInOrder ((assignEach ts X.env).map (·.2)) us) (fun _ s' => ∃ σ' H', Inv X pins σ' H' s' ∧ Q σ' H') X.xe s
/-- o[i] = v, by values -/
abbrev TSet := V → V → V → Hp → (Hp → Prop) → Prop
def PSet (X : Cx) (t : TSet) : Prop :=
  ∀ (pins : List (Addr × Obj)) (s : Shared) (σ : St) (H : Hp) (o i v : V) (ov iv u : Value) (Q : Hp → Prop), Inv X pins σ H s → RelV o ov → RelV i iv → RelV v u → t o i v H Q →
    wpAny (model X.prog X.w) X.A (setItem ov iv u) (fun _ s' => ∃ H', Inv X pins σ H' s' ∧ Q H') X.xe s
/-- a op= b, by values -/
abbrev TIp := V → V → Hp → VK → Prop
def PIp (X : Cx) (op : Operator) (t : TIp) : Prop :=
  ∀ (pins : List (Addr × Obj)) (s : Shared) (σ : St) (H : Hp) (x y : V) (v u : Value) (Q : VK), Inv X pins σ H s → RelV x v → RelV y u → t x y H Q →
    wpAny (model X.prog X.w) X.A (inplaceOp op v u) (EP X pins σ Q) X.xe s
section
variable {X : Cx} {pos : Pos}
def gName (i : Nat) : TG := fun v σ H Q => Q (σ.set i (some v)) H
theorem pg_name {i : Nat} {x : Str} (hN : X.N.Nodup) (hi : X.N[i]? = some x) (hx : Loc X.env.scope x) (hf : X.fn x = true ∨ X.env.scope.names.lookup x = some .local := by first | exact .inl rfl | exact .inr rfl | assumption) : PG X (.Name x pos) (gName i) := by
  intro pins s σ H v u Q I r h
  exact wpAny_assign_Name (store_ok I hN hi hx r (fun s' I' => ⟨_, H, I', h⟩) hf)
def gNil : TGs := fun vs σ H Q => vs = [] ∧ Q σ H
def gCons (t : TG) (u : TGs) : TGs := fun vs σ H Q => ∃ v r, vs = v :: r ∧ t v σ H fun σ' H' => u r σ' H' Q
theorem pgs_nil : PGs X [] gNil := by
  intro pins s σ H vs us Q I r h
  obtain ⟨e, h⟩ := h
  subst e
  cases r
  exact assignInOrder_nil ⟨σ, H, I, h⟩
theorem pgs_cons {e : Expr} {es : List Expr} {t : TG} {u : TGs} (h1 : PG X e t) (h2 : PGs X es u)
    (hs : (assignEach (e :: es) X.env).map (·.2) = assign e X.env :: (assignEach es X.env).map (·.2) := by rfl) : PGs X (e :: es) (gCons t u) := by
  intro pins s σ H vs us Q I r h
  obtain ⟨v, vr, e1, h⟩ := h
  subst e1
  cases r with
  | cons r rr =>
    rw [hs]
    refine assignInOrder_cons (thn (h1 pins s σ H _ _ _ I r h) fun _ s1 ⟨σ1, H1, I1, q1⟩ => ?_)
    exact h2 pins s1 σ1 H1 _ _ Q I1 rr q1
/-- (a, b, ..) = a tuple of that length -/
def gTup (K : PySem.W.Frag) (n : Nat) (t : TGs) : TG := fun v σ H Q => ∃ a xs, v = .ref a ∧ SqT K H a xs ∧ xs.length = n ∧ t xs σ H Q
theorem pg_tup {es : List Expr} {k : Nat} {t : TGs} {n : Nat} (hc : X.calm = true) (h : PGs X es t)
    (hn : (assignEach es X.env).length = n := by rfl) (hst : (assignEach es X.env).findIdx? (·.1) = none := by rfl) : PG X (.Tuple es k pos) (gTup X.K n t) := by
  intro pins s σ H v u Q I r hw
  obtain ⟨a, xs, e1, hq, hl, hw⟩ := hw
  subst e1
  cases r
  obtain ⟨its, rv, ht, hz⟩ := I.tuple hq
  refine assign_Tuple_tuple (I.ok.hd hc) ht (by simp [hn, ← hl, rv.length]) hst fun h' hx => ?_
  have I1 : Inv X pins σ H { s with heap := h' } := I.kept (t' := s.toks) fun b o e => hx b o (Nat.ne_of_lt (Heap.lt_size e)) e
  exact h pins _ σ H xs _ Q I1 (by simpa using rv) hw
/-- o[i] = .. -/
def gSub (to ti : TE) (t : TSet) : TG := fun v σ H Q => to σ H fun o H1 => ti σ H1 fun i H2 => t o i v H2 fun H3 => Q σ H3
theorem pg_sub {o i : Expr} {to ti : TE} {t : TSet} (ho : PE X o to) (hi : PE X i ti) (hs : PSet X t)
    (ha : ∀ v, assign (.Subscript o i pos) X.env v = (do
      let ov ← holding [v] (eval o X.env)
      let iv ← holding [v, ov] (eval i X.env)
      standAt pos
      holding [v, ov, iv] (setItem ov iv v)
      release [v, ov, iv] []) := by intro _; rfl) : PG X (.Subscript o i pos) (gSub to ti t) := by
  intro pins s σ H v u Q I r h
  rw [ha]
  refine wpAny_bind (wpAny_holding (thn (ho pins s σ H _ I h) fun ov s1 ⟨x, H1, I1, r1, q1⟩ => ?_))
  refine wpAny_bind (wpAny_holding (thn (hi pins s1 σ H1 _ I1 q1) fun iv s2 ⟨y, H2, I2, r2, q2⟩ => ?_))
  refine wpAny_bind (wpAny_standAt (wpAny_bind (wpAny_holding (thn (hs pins s2 σ H2 x y v ov iv u _ I2 r1 r2 r q2) fun _ s3 ⟨H3, I3, q3⟩ => ?_))))
  exact wpAny_release ⟨σ, H3, I3, q3⟩
/-- target = value -/
def tAsg (te : TE) (g : TG) : TS := fun D σ H => te σ H fun x H1 => g x σ H1 D.nx
theorem ps_asg {tg e : Expr} {te : TE} {g : TG} (he : PE X e te) (hg : PG X tg g) (hs : swapsWithSole [tg] e pos.line X.env = pure false := by rfl) (hw : swappedStores [tg] e X.env = pure none := by rfl)
    (h1 : (assignEach [tg] X.env).map (·.2) = [assign tg X.env] := by rfl) : PS X (.Assign [tg] e pos) (tAsg te g) := by
  intro pins s σ H D I h
  refine wpAny_Assign_stores (thn (he pins s σ H _ I h) fun v s1 ⟨x, H1, I1, r1, q1⟩ => ?_) hs hw
  rw [h1]
  exact thn (hg pins s1 σ H1 x v _ I1 r1 q1) fun _ s2 q => q
/-- name = value -/
theorem ps_set {i : Nat} {x : Str} {e : Expr} {te : TE} {pos' : Pos} (hN : X.N.Nodup) (hi : X.N[i]? = some x) (hx : Loc X.env.scope x) (he : PE X e te) (hs : swapsWith e (some (.Name x pos')) pos.line X.env = pure false := by rfl) (hf : X.fn x = true ∨ X.env.scope.names.lookup x = some .local := by first | exact .inl rfl | exact .inr rfl | assumption) :
    PS X (.Assign [.Name x pos'] e pos) (tAsg te (gName i)) := by
  intro pins s σ H D I h
  refine wpAny_Assign_Name (thn (he pins s σ H _ I h) fun v s1 ⟨y, H1, I1, r1, q1⟩ => ?_) hs
  exact store_ok I1 hN hi hx r1 (fun s2 I2 => ⟨_, H1, I2, q1⟩) hf
/-- name op= e -/
def tAug (i : Nat) (te : TE) (ti : TIp) : TS := fun D σ H => ∃ x, σ[i]? = some (some x) ∧ te σ H fun y H1 => ti x y H1 fun z H2 => D.nx (σ.set i (some z)) H2
/-- o[i] op= e -/
def tAugS (to ti te : TE) (tget : V → V → Hp → VK → Prop) (tip : TIp) (tset : TSet) : TS := fun D σ H => to σ H fun o H1 => ti σ H1 fun i H2 => tget o i H2 fun x H3 => te σ H3 fun y H4 => tip x y H4 fun z H5 => tset o i z H5 fun H6 => D.nx σ H6
/-- o[i], by values -/
def PGet (X : Cx) (t : V → V → Hp → VK → Prop) : Prop :=
  ∀ (pins : List (Addr × Obj)) (s : Shared) (σ : St) (H : Hp) (o i : V) (ov iv : Value) (Q : VK), Inv X pins σ H s → RelV o ov → RelV i iv → t o i H Q →
    wpAny (model X.prog X.w) X.A (getItem ov iv) (EP X pins σ Q) X.xe s
/-- ints -/
def ipI (f : Int → Int → Int) : TIp := fun x y H Q => ∃ i j, x = .int i ∧ y = .int j ∧ Q (.int (f i j)) H
end
/-! ### while -/
section
variable {X : Cx} {pos : Pos}
/-- the invariant W with its measure -/
def tWhile (c : TT) (tb : TS) : TS := fun D σ H => ∃ W : Nat → St → Hp → Prop, (∃ m, W m σ H) ∧ ∀ m σ H, W m σ H →
  c σ H fun b H1 => if b = true then ∃ N : St → Hp → Prop, (∀ σ' H', N σ' H' → ∃ m', m' < m ∧ W m' σ' H') ∧ tb { D with nx := N, ct := N, bk := D.nx } σ H1 else D.nx σ H1
theorem ps_while {c : Expr} {body : List Stmt} {tc : TT} {tb : TS} (hp : PassesOwn (model X.prog X.w) X.A X.env X.xe) (hc : PT X c tc) (hb : PSs X body tb) : PS X (.While c body [] pos) (tWhile tc tb) := by
  intro pins s σ H D I h
  obtain ⟨W, ⟨m0, w0⟩, turn⟩ := h
  refine wpAny_While (codeAny_whileLoop (fun n s' => ∃ σ' H', Inv X pins σ' H' s' ∧ W n σ' H') ?_ m0 ⟨σ, H, I, w0⟩)
  rintro n s1 ⟨σ1, H1, I1, w1⟩
  refine wpAny_passesOwn hp (thn (hc pins s1 σ1 H1 _ I1 (turn n σ1 H1 w1)) fun b s2 ⟨H2, I2, q2⟩ => ?_)
  cases b with
  | true =>
    obtain ⟨N, hN, q2⟩ := q2
    rw [if_pos rfl]
    refine wpAny_passesOwn hp (thn (hb pins s2 σ1 H2 _ I2 q2) fun f s3 q3 => ?_)
    cases f with
    | next =>
      obtain ⟨σ3, H3, I3, n3⟩ := q3
      obtain ⟨m', hm, w3⟩ := hN σ3 H3 n3
      exact ⟨m', hm, σ3, H3, I3, w3⟩
    | cont =>
      obtain ⟨σ3, H3, I3, n3⟩ := q3
      obtain ⟨m', hm, w3⟩ := hN σ3 H3 n3
      exact ⟨m', hm, σ3, H3, I3, w3⟩
    | brk => exact q3
    | ret v => exact q3
  | false =>
    rw [if_neg Bool.false_ne_true]
    exact wpAny_execs_nil ⟨σ1, H2, I2, q2⟩
end
/-! ### what a loop or a comprehension walks -/
/-- at turn i: it yields x (the heap may grow), or it stops -/
structure It where
  go : Nat → Hp → Prop
  yld : Nat → Hp → V → Hp → Prop
  stop : Nat → Hp → Prop
/-- the iterator's own objects may turn: they are not the frame's, not pinned, younger than the entry (or a comprehension's own) -/
def FpOk (X : Cx) (pins : List (Addr × Obj)) (H : Hp) (b : Addr) : Prop :=
  H b = none ∧ b ≠ X.env.locals ∧ b ∉ X.fs ∧ (b ∈ X.ex ∨ X.s_0.heap.objs.size ≤ b) ∧ (∀ x c, X.env.cells.lookup x = some c → c ≠ b) ∧ ∀ p ∈ X.pn ++ pins, p.1 ≠ b
theorem Inv.fpOk {X : Cx} {pins : List (Addr × Obj)} {σ : St} {H H' : Hp} {s : Shared} {b : Addr} (I : Inv X pins σ H s) (hb : s.heap.objs.size ≤ b) (hn : H' b = none) : FpOk X pins H' b := by
  refine ⟨hn, Nat.ne_of_gt (Nat.lt_of_lt_of_le I.lt hb), I.nofs hb, .inr (Nat.le_trans I.sz hb), fun x c e z => ?_, fun p hp z => ?_⟩
  · obtain ⟨v, q⟩ := I.cell x c e
    exact absurd (Nat.lt_of_lt_of_le q.lt (by rw [z]; exact hb)) (Nat.lt_irrefl _)
  · exact absurd (Nat.lt_of_lt_of_le (Heap.lt_size (I.pin p hp).1) (by rw [z]; exact hb)) (Nat.lt_irrefl _)
structure Turn (P : Program) (w : World) (K : PySem.W.Frag) (tg : Expr) (J : It) (fp : List Addr) (it : Addr) (tn : Nat → Heap → Prop) : Prop where
  mem : it ∈ fp
  obj : ∀ i h, tn i h → ∀ b ∈ fp, ∃ o, h.get? b = some o ∧ ∀ v, o.data ≠ .cell v
  keep : ∀ i h h', tn i h → (∀ b ∈ fp, ∀ o, h.get? b = some o → h'.get? b = some o) → tn i h'
  item : ∀ (X : Cx), X.prog = P → X.w = w → X.K = K → X.calm = true → ∀ (i : Nat) (pins : List (Addr × Obj)) (s : Shared) (σ : St) (H : Hp) (E : Value → Shared → Prop), Inv X pins σ H s → (∀ b ∈ fp, FpOk X pins H b) → tn i s.heap → J.go i H →
    wpAny (model P w) X.A (pyNext (.ref it)) (fun r s1 => ∃ u, r = some u ∧
      wpAny (model P w) X.A (letOwnedTupleGo tg (.ref it) u) (fun _ s2 => ∃ x H', Inv X pins σ H' s2 ∧ RelV x u ∧ J.yld i H x H' ∧ tn (i + 1) s2.heap ∧ ∀ b ∈ fp, H' b = none) E s1) E s
  done : ∀ (X : Cx), X.prog = P → X.w = w → X.K = K → X.calm = true → ∀ (i : Nat) (pins : List (Addr × Obj)) (s : Shared) (σ : St) (H : Hp) (E : Value → Shared → Prop), Inv X pins σ H s → (∀ b ∈ fp, FpOk X pins H b) → tn i s.heap → J.stop i H →
    wpAny (model P w) X.A (pyNext (.ref it)) (fun r s1 => r = none ∧ Inv X pins σ H s1) E s
  self : ∀ (A : Around) (i : Nat) (s : Shared) (Q : Value → Shared → Prop) (E : Value → Shared → Prop), tn i s.heap → Q (.ref it) s → wpAny (model P w) A (pyIter (.ref it)) Q E s
abbrev TI := St → Hp → (It → Hp → Prop) → Prop
/-- an iterator has come -/
def PIE (X : Cx) (pins : List (Addr × Obj)) (σ : St) (tg : Expr) (R : It → Hp → Prop) (itv : Value) (s2 : Shared) : Prop :=
  ∃ (it : Addr) (fp : List Addr) (tn : Nat → Heap → Prop) (J : It) (H' : Hp), itv = .ref it ∧ Inv X pins σ H' s2 ∧ Turn X.prog X.w X.K tg J fp it tn ∧ tn 0 s2.heap ∧ (∀ b ∈ fp, FpOk X pins H' b) ∧ R J H'
def PI (X : Cx) (tg iter : Expr) (wi : TI) : Prop :=
  ∀ (pins : List (Addr × Obj)) (s : Shared) (σ : St) (H : Hp) (R : It → Hp → Prop), Inv X pins σ H s → wi σ H R →
    wpAny (model X.prog X.w) X.A (eval iter X.env) (fun v s1 => wpAny (model X.prog X.w) X.A (pyIter v) (PIE X pins σ tg R) X.xe s1) X.xe s
/-- the step ahead of the store is nothing for an iterator that keeps no tuple -/
theorem go_of {M : Model} {A : Around} {E : Value → Shared → Prop} {s : Shared} {tg : Expr} {it : Addr} {u : Value} {o : Obj} {n : String} {vs : Array Value} {Q : Unit → Shared → Prop} (ho : s.heap.get? it = some o) (hc : o.cls = .type n) (hd : o.data = .fields vs)
    (hn : ["enumerate", "zip", "dict_itemiterator", "dict_reverseitemiterator", "odict_iterator", "itertools.zip_longest", "itertools.pairwise"].contains n = false) (hQ : Q () s) : wpAny M A (letOwnedTupleGo tg (.ref it) u) Q E s := by
  unfold letOwnedTupleGo
  cases tg <;> first
    | exact wpAny_pure hQ
    | (cases u <;> first
        | exact wpAny_pure hQ
        | (refine wpAny_bind (wpAny_load ho ?_)
           rw [hc, hd]
           show wpAny M A (if (["enumerate", "zip", "dict_itemiterator", "dict_reverseitemiterator", "odict_iterator", "itertools.zip_longest", "itertools.pairwise"].contains n && vs[0]? == some (rawInt _)) = true then _ else _) Q E s
           rw [if_neg (by intro h; rw [hn, Bool.false_and] at h; cases h)]
           exact wpAny_pure hQ))
/-- the list at a, as it stands at each turn (a loop may append to it) -/
def Itl (K : PySem.W.Frag) (a : Addr) : It :=
  ⟨fun i H => ∃ xs x, SqL K H a xs ∧ xs[i]? = some x, fun i H x H' => H' = H ∧ ∀ xs, SqL K H a xs → xs[i]? = some x, fun i H => ∃ xs, SqL K H a xs ∧ xs.length ≤ i⟩
/-- lo, lo + 1, .. (n of them) -/
def Itr (lo : Int) (n : Nat) : It := ⟨fun i _ => i < n, fun i H x H' => H' = H ∧ x = .int (lo + i), fun i _ => n ≤ i⟩
theorem turn_list {P : Program} {w : World} {K : PySem.W.Frag} {tg : Expr} (a it : Addr) : Turn P w K tg (Itl K a) [it] it (fun i h => h.IsListIter it a i) where
  mem := by simp
  obj := fun i h st b hb => by
    have e : b = it := by simpa using hb
    subst e
    obtain ⟨o, e, c, d⟩ := st
    exact ⟨o, e, fun v z => by rw [d] at z; cases z⟩
  keep := fun i h h' st k => st.at fun o e => k it (by simp) o e
  item := by
    intro X hP hw hK hc i pins s σ H E I hf st hg
    subst hP hw hK
    obtain ⟨xs, x, hq, hx⟩ := hg
    obtain ⟨its, rv, p, hz⟩ := I.list hq
    obtain ⟨u, hu, ru⟩ := rv.get hx
    obtain ⟨f0, f1, f2, f3, f4, f5⟩ := hf it (by simp)
    refine wpAny_pyNext_list_item st p.isList (x := u) (by simpa using hu) fun h' st' sb => ?_
    have I1 : Inv X pins σ H { s with heap := h' } := I.turned (t' := s.toks) (fun b o hb e => (sb.2 b hb).trans e) f0 f1 f3 f4 f5
    obtain ⟨o, e, c, d⟩ := id st'
    exact ⟨u, rfl, go_of (s := { s with heap := h' }) e c d (by decide) ⟨x, H, I1, ru, ⟨rfl, fun ys hy => by rw [I.list_inj hy hq]; exact hx⟩, st', fun b hb => (hf b hb).1⟩⟩
  done := by
    intro X hP hw hK hc i pins s σ H E I hf st hg
    subst hP hw hK
    obtain ⟨xs, hq, hx⟩ := hg
    obtain ⟨its, rv, p, hz⟩ := I.list hq
    obtain ⟨f0, f1, f2, f3, f4, f5⟩ := hf it (by simp)
    have hl := rv.length
    exact wpAny_pyNext_list_end (I.ok.hd hc) st p.isList (by simp; omega) fun h' eb => ⟨rfl, I.turned (t' := s.toks) (fun b o hb e => eb b o hb e) f0 f1 f3 f4 f5⟩
  self := fun _ _ _ _ _ st h => wpAny_pyIter_listiter st h
theorem turn_range {P : Program} {w : World} {K : PySem.W.Frag} {tg : Expr} (it : Addr) (lo : Int) (n : Nat) : Turn P w K tg (Itr lo n) [it] it (fun i h => IsRangeIter h it (lo + (i : Nat) * 1) ((n : Int) - (i : Nat)) 1) where
  mem := by simp
  obj := fun i h st b hb => by
    have e : b = it := by simpa using hb
    subst e
    exact ⟨_, st, fun v z => by
      have z' : Data.fields _ = Data.cell v := z
      cases z'⟩
  keep := fun i h h' st k => k it (by simp) _ st
  item := by
    intro X hP hw hK hc i pins s σ H E I hf st hg
    subst hP hw hK
    obtain ⟨f0, f1, f2, f3, f4, f5⟩ := hf it (by simp)
    have W := Walks.range (prog := X.prog) (w := X.w) (I.ok.hd hc) it lo 1 n
    refine W.item i s _ _ hg st fun v h' tk hv st' kk => ?_
    obtain ⟨t, rfl⟩ := hv
    have I1 : Inv X pins σ H { s with heap := h', toks := tk } := I.turned (fun b o hb e => kk b o (by simpa using hb) e) f0 f1 f3 f4 f5
    refine ⟨_, rfl, go_of (s := { s with heap := h', toks := tk }) (n := "range_iterator") st' rfl rfl (by decide) ⟨.int (lo + i), H, I1, ⟨t, ?_⟩, ⟨rfl, rfl⟩, st', fun b hb => (hf b hb).1⟩⟩
    rw [Int.mul_one]
  done := by
    intro X hP hw hK hc i pins s σ H E I hf st hg
    subst hP hw hK
    obtain ⟨f0, f1, f2, f3, f4, f5⟩ := hf it (by simp)
    exact wpAny_pyNext_range_end (I.ok.hd hc) st (by have : n ≤ i := hg; omega) fun h' eb => ⟨rfl, I.turned (t' := s.toks) (fun b o hb e => eb b o hb e) f0 f1 f3 f4 f5⟩
  self := fun _ _ _ _ _ st h => wpAny_pyIter_rangeiter st h
end L2
namespace L2
open PySem PySem.Spec PyProof.Rows
section
variable {X : Cx} {tg : Expr}
def iList (K : PySem.W.Frag) (tl : TE) : TI := fun σ H R => tl σ H fun x H1 => ∃ a, x = .ref a ∧ (∃ xs, SqL K H1 a xs) ∧ R (Itl K a) H1
theorem pi_list {l : Expr} {tl : TE} (hl : PE X l tl) : PI X tg l (iList X.K tl) := by
  intro pins s σ H R I h
  refine thn (hl pins s σ H _ I h) fun v s1 ⟨x, H1, I1, r1, q1⟩ => ?_
  obtain ⟨a, e, ⟨xs, hq⟩, q⟩ := q1
  subst e
  cases r1
  obtain ⟨its, rv, p, hz⟩ := I1.list hq
  refine wpAny_pyIter_list p.isList ?_
  refine ⟨s1.heap.objs.size, [s1.heap.objs.size], _, _, H1, rfl, I1.kept (t' := s1.toks) fun b o e => Heap.get?_push_of_some _ e, turn_list a _, ⟨_, Heap.get?_push_size _ rfl, rfl, rfl⟩, fun b hb => ?_, q⟩
  have e : b = s1.heap.objs.size := by simpa using hb
  subst e
  exact I1.fpOk (Nat.le_refl _) (I1.hok.fresh (Nat.le_refl _))
/-- a range object just made, walked -/
theorem range_it {pins : List (Addr × Obj)} {σ : St} {H : Hp} {s : Shared} {R : It → Hp → Prop} {E : Value → Shared → Prop} {lo hi : Int} {t u v : Tok} {tk : Nat} (I : Inv X pins σ H s) (h1 : -(2 ^ 62) ≤ lo) (h2 : lo < 2 ^ 62) (h3 : -(2 ^ 62) ≤ hi) (h4 : hi < 2 ^ 62)
    (q : R (Itr lo (hi - lo).toNat) H) : wpAny (model X.prog X.w) X.A (pyIter (.ref s.heap.objs.size)) (PIE X pins σ tg R) E { s with heap := s.heap.push { cls := .type "range", data := .fields #[.int lo t, .int hi u, .int 1 v] }, toks := tk } := by
  refine wpAny_pyIter_range (IsRange.new ..) (small_one h1 h2 h3 h4) ?_
  have I1 : Inv X pins σ H { s with heap := s.heap.push { cls := .type "range", data := .fields #[.int lo t, .int hi u, .int 1 v] }, toks := tk } := I.kept fun b o e => Heap.get?_push_of_some _ e
  refine ⟨(s.heap.push { cls := .type "range", data := .fields #[.int lo t, .int hi u, .int 1 v] }).objs.size, [(s.heap.push { cls := .type "range", data := .fields #[.int lo t, .int hi u, .int 1 v] }).objs.size], _, _, H, rfl,
    I1.kept (t' := tk) fun b o e => Heap.get?_push_of_some _ e, turn_range _ lo (hi - lo).toNat, ?_, fun b hb => ?_, q⟩
  · have e1 : lo + ((0 : Nat) : Int) * 1 = lo := by simp
    have e2 : (((hi - lo).toNat : Nat) : Int) - ((0 : Nat) : Int) = Builtin.Range.rangeSize lo hi 1 := by rw [rangeSize_one]; split <;> omega
    show IsRangeIter _ _ (lo + ((0 : Nat) : Int) * 1) ((((hi - lo).toNat : Nat) : Int) - ((0 : Nat) : Int)) 1
    rw [e1, e2]
    exact Heap.get?_push_size _ rfl
  · have e : b = (s.heap.push { cls := .type "range", data := .fields #[.int lo t, .int hi u, .int 1 v] }).objs.size := by simpa using hb
    subst e
    exact I1.fpOk (Nat.le_refl _) (I1.hok.fresh (Nat.le_refl _))
def iRng1 (ta : TA) : TI := fun σ H R => ta σ H fun vs H1 => ∃ j : Int, vs = [.int j] ∧ -(2 ^ 62) ≤ j ∧ j < 2 ^ 62 ∧ R (Itr 0 j.toNat) H1
theorem pi_range1 {a : Expr} {ta : TA} {p pos : Pos} (hg : Gl X "range") (hm : X.mg "range" = none) (ha : PA X [a] ta) (hs : starEach [a] X.env = [(false, eval a X.env)] := by rfl) : PI X tg (.Call (.Name "range" p) [a] [] pos) (iRng1 ta) := by
  intro pins s σ H R I h
  refine Call_ (ld_blt I hg hm boot_range (PyProof.Rows.callWith_type1 (thn (ha pos pins s σ H _ I h) fun us s1 ⟨vs, H1, I1, r1, q1⟩ => ?_) hs rfl))
  obtain ⟨j, e, q1, q2, q⟩ := q1
  subst e
  cases r1 with
  | cons r rr =>
    cases rr
    obtain ⟨t, rfl⟩ := r
    exact call_range_1 (range_it I1 (by omega) (by omega) q1 q2 (by simpa using q))
/-! ### for -/
/-- W: the invariant by the turn and a measure; N: what the body is to reach -/
def tFor (wi : TI) (g : TG) (tb : TS) : TS := fun D σ H => wi σ H fun J H1 => ∃ W : Nat → Nat → St → Hp → Prop, (∃ m, W 0 m σ H1) ∧ ∀ i m σ H, W i m σ H →
  (J.stop i H ∧ D.nx σ H) ∨ (J.go i H ∧ ∃ N : St → Hp → Prop, (∀ σ' H', N σ' H' → ∃ m', m' < m ∧ W (i + 1) m' σ' H') ∧ ∀ x H', J.yld i H x H' → g x σ H' fun σ2 H2 => tb { D with nx := N, ct := N, bk := D.nx } σ2 H2)
/-- the records at fp as they stand -/
def pinsAt (fp : List Addr) (h : Heap) : List (Addr × Obj) := fp.filterMap fun b => (h.get? b).map fun o => (b, o)
theorem mem_pinsAt {fp : List Addr} {h : Heap} {b : Addr} {o : Obj} (hb : b ∈ fp) (e : h.get? b = some o) : (b, o) ∈ pinsAt fp h := List.mem_filterMap.mpr ⟨b, hb, by rw [e]; rfl⟩
theorem of_pinsAt {fp : List Addr} {h : Heap} {p : Addr × Obj} (hp : p ∈ pinsAt fp h) : p.1 ∈ fp ∧ h.get? p.1 = some p.2 := by
  obtain ⟨b, hb, e⟩ := List.mem_filterMap.mp hp
  cases q : h.get? b with
  | none => rw [q] at e; cases e
  | some o =>
    rw [q] at e
    have e' : (b, o) = p := Option.some.inj e
    subst e'
    exact ⟨hb, q⟩
theorem Inv.pinned {pins : List (Addr × Obj)} {σ : St} {H : Hp} {s : Shared} {fp : List Addr} (I : Inv X pins σ H s) (hf : ∀ b ∈ fp, FpOk X pins H b) (ho : ∀ b ∈ fp, ∃ o, s.heap.get? b = some o ∧ ∀ v, o.data ≠ .cell v) : Inv X (pins ++ pinsAt fp s.heap) σ H s :=
  I.pins_of fun p hp => (List.mem_append.mp hp).elim (fun z => I.pin p (List.mem_append_right _ z)) fun z => by
    obtain ⟨hb, e⟩ := of_pinsAt z
    obtain ⟨f0, f1, f2, _⟩ := hf p.1 hb
    obtain ⟨o, e', d⟩ := ho p.1 hb
    rw [e] at e'; cases e'
    exact ⟨e, f0, f1, f2, d⟩
theorem Inv.unpinned {pins pl : List (Addr × Obj)} {σ : St} {H : Hp} {s : Shared} (I : Inv X (pins ++ pl) σ H s) : Inv X pins σ H s := I.pins_of fun p hp => I.pin p (List.mem_append_right _ (List.mem_append_left _ hp))
theorem ps_for {iter : Expr} {body : List Stmt} {wi : TI} {g : TG} {tb : TS} {pos : Pos} (hp : PassesOwn (model X.prog X.w) X.A X.env X.xe) (hc : X.calm = true) (hi : PI X tg iter wi) (hg : PG X tg g) (hb : PSs X body tb)
    (hs : ∀ x, foldedSetIterable iter X.env x = pure x := by intro _; rfl) : PS X (.For tg iter body [] pos) (tFor wi g tb) := by
  intro pins s σ H D I h
  refine wpAny_For (thn (hi pins s σ H _ I h) fun v s1 h1 => thn h1 fun itv s2 h2 => ?_) hs
  obtain ⟨it, fp, tn, J, H2, e, I2, T, st2, f2, W, ⟨m0, w0⟩, turn⟩ := h2
  subst e
  -- what stays true of the iterator's objects through the loop
  have stat : ∀ {H' : Hp}, (∀ b ∈ fp, H' b = none) → ∀ b ∈ fp, FpOk X pins H' b := fun hn b hb => ⟨hn b hb, (f2 b hb).2⟩
  refine codeAny_forLoop_any (fun n s' => ∃ i σ' H', Inv X pins σ' H' s' ∧ tn i s'.heap ∧ (∀ b ∈ fp, H' b = none) ∧ W i n σ' H') ?_ m0 ⟨0, σ, H2, I2, st2, fun b hb => (f2 b hb).1, w0⟩
  rintro n s3 ⟨i, σ3, H3, I3, st3, fr3, w3⟩
  rcases turn i n σ3 H3 w3 with ⟨stop, qn⟩ | ⟨go, N, hN, step⟩
  · refine wpAny_passesOwn hp (thn (T.done X rfl rfl rfl hc i pins s3 σ3 H3 X.xe I3 (stat fr3) st3 stop) fun r s4 ⟨hr, I4⟩ => ?_)
    subst hr
    exact wpAny_execs_nil ⟨σ3, H3, I4, qn⟩
  · refine wpAny_passesOwn hp (thn (T.item X rfl rfl rfl hc i pins s3 σ3 H3 X.xe I3 (stat fr3) st3 go) fun r s4 ⟨u, hr, h4⟩ => ?_)
    subst hr
    refine wpAny_passesOwn hp (thn h4 fun _ s5 ⟨x, H5, I5, r5, y5, st5, fr5⟩ => ?_)
    have I5' := I5.pinned (stat fr5) (T.obj _ _ st5)
    refine wpAny_passesOwn hp (thn (hg _ s5 σ3 H5 x u _ I5' r5 (step x H5 y5)) fun _ s6 ⟨σ6, H6, I6, q6⟩ => ?_)
    refine wpAny_passesOwn hp (thn (hb _ s6 σ6 H6 _ I6 q6) fun f s7 q7 => ?_)
    have again : ∀ {σ7 : St} {H7 : Hp}, Inv X (pins ++ pinsAt fp s5.heap) σ7 H7 s7 → N σ7 H7 → ∃ m, m < n ∧ ∃ i σ' H', Inv X pins σ' H' s7 ∧ tn i s7.heap ∧ (∀ b ∈ fp, H' b = none) ∧ W i m σ' H' := fun {σ7 H7} I7 n7 => by
      obtain ⟨m', hm, w7⟩ := hN σ7 H7 n7
      refine ⟨m', hm, i + 1, σ7, H7, I7.unpinned, T.keep _ _ _ st5 fun b hb o e => (I7.pin (b, o) (List.mem_append_right _ (List.mem_append_right _ (mem_pinsAt hb e)))).1, fun b hb => ?_, w7⟩
      obtain ⟨o, e, d⟩ := T.obj _ _ st5 b hb
      exact (I7.pin (b, o) (List.mem_append_right _ (List.mem_append_right _ (mem_pinsAt hb e)))).2.1
    cases f with
    | next => obtain ⟨σ7, H7, I7, n7⟩ := q7; exact again I7 n7
    | cont => obtain ⟨σ7, H7, I7, n7⟩ := q7; exact again I7 n7
    | brk => obtain ⟨σ7, H7, I7, q7⟩ := q7; exact ⟨σ7, H7, I7.unpinned, q7⟩
    | ret v => obtain ⟨x7, σ7, H7, I7, r7, q7⟩ := q7; exact ⟨x7, σ7, H7, I7.unpinned, r7, q7⟩
end
/-! ### the forms one uses -/
/-- over a list that the body leaves as it is -/
theorem for_list {K : PySem.W.Frag} {a : Addr} {xs : List V} {g : TG} {tb : TS} {D : Ends} {σ : St} {H : Hp} (Pv : Nat → St → Hp → Prop) (h0 : Pv 0 σ H) (hl : ∀ i σ H, i ≤ xs.length → Pv i σ H → SqL K H a xs)
    (hs : ∀ i x σ H, xs[i]? = some x → Pv i σ H → g x σ H fun σ2 H2 => tb { D with nx := Pv (i + 1), ct := Pv (i + 1), bk := D.nx } σ2 H2) (hd : ∀ σ H, Pv xs.length σ H → D.nx σ H) :
    ∃ W : Nat → Nat → St → Hp → Prop, (∃ m, W 0 m σ H) ∧ ∀ i m σ H, W i m σ H →
      ((Itl K a).stop i H ∧ D.nx σ H) ∨ ((Itl K a).go i H ∧ ∃ N : St → Hp → Prop, (∀ σ' H', N σ' H' → ∃ m', m' < m ∧ W (i + 1) m' σ' H') ∧ ∀ x H', (Itl K a).yld i H x H' → g x σ H' fun σ2 H2 => tb { D with nx := N, ct := N, bk := D.nx } σ2 H2) := by
  refine ⟨fun i m σ H => m = xs.length - i ∧ i ≤ xs.length ∧ Pv i σ H, ⟨xs.length, by simp, Nat.zero_le _, h0⟩, ?_⟩
  rintro i m σ H ⟨rfl, hi, p⟩
  have q := hl i σ H hi p
  by_cases hlt : i < xs.length
  · refine .inr ⟨⟨xs, xs[i], q, by simp [hlt]⟩, Pv (i + 1), fun σ' H' p' => ⟨xs.length - (i + 1), by omega, rfl, hlt, p'⟩, fun x H' y => ?_⟩
    obtain ⟨e, y⟩ := y
    subst e
    exact hs i x σ _ (y xs q) p
  · have e : i = xs.length := by omega
    subst e
    exact .inl ⟨⟨xs, q, Nat.le_refl _⟩, hd σ H p⟩
theorem for_range {lo : Int} {n : Nat} {g : TG} {tb : TS} {D : Ends} {σ : St} {H : Hp} (Pv : Nat → St → Hp → Prop) (h0 : Pv 0 σ H)
    (hs : ∀ i σ H, i < n → Pv i σ H → g (.int (lo + i)) σ H fun σ2 H2 => tb { D with nx := Pv (i + 1), ct := Pv (i + 1), bk := D.nx } σ2 H2) (hd : ∀ σ H, Pv n σ H → D.nx σ H) :
    ∃ W : Nat → Nat → St → Hp → Prop, (∃ m, W 0 m σ H) ∧ ∀ i m σ H, W i m σ H →
      ((Itr lo n).stop i H ∧ D.nx σ H) ∨ ((Itr lo n).go i H ∧ ∃ N : St → Hp → Prop, (∀ σ' H', N σ' H' → ∃ m', m' < m ∧ W (i + 1) m' σ' H') ∧ ∀ x H', (Itr lo n).yld i H x H' → g x σ H' fun σ2 H2 => tb { D with nx := N, ct := N, bk := D.nx } σ2 H2) := by
  refine ⟨fun i m σ H => m = n - i ∧ i ≤ n ∧ Pv i σ H, ⟨n, by simp, Nat.zero_le _, h0⟩, ?_⟩
  rintro i m σ H ⟨rfl, hi, p⟩
  by_cases hlt : i < n
  · refine .inr ⟨hlt, Pv (i + 1), fun σ' H' p' => ⟨n - (i + 1), by omega, rfl, hlt, p'⟩, fun x H' y => ?_⟩
    obtain ⟨e, y⟩ := y
    subst e y
    exact hs i σ _ hlt p
  · have e : i = n := by omega
    subst e
    exact .inl ⟨Nat.le_refl _, hd σ H p⟩
/-- while, by a word and a measure of the state -/
theorem while_by {c : TT} {tb : TS} {D : Ends} {σ : St} {H : Hp} (Pv : St → Hp → Prop) (μ : St → Hp → Nat) (h0 : Pv σ H)
    (hs : ∀ σ H, Pv σ H → c σ H fun b H1 => if b = true then tb { D with nx := fun σ' H' => Pv σ' H' ∧ μ σ' H' < μ σ H, ct := fun σ' H' => Pv σ' H' ∧ μ σ' H' < μ σ H, bk := D.nx } σ H1 else D.nx σ H1)
    (mono : ∀ σ H Q Q', (∀ b H1, Q b H1 → Q' b H1) → c σ H Q → c σ H Q') : tWhile c tb D σ H := by
  refine ⟨fun m σ H => m = μ σ H ∧ Pv σ H, ⟨_, rfl, h0⟩, ?_⟩
  rintro m σ H ⟨rfl, p⟩
  refine mono σ H _ _ (fun b H1 q => ?_) (hs σ H p)
  cases b with
  | true => exact ⟨_, fun σ' H' ⟨p', l⟩ => ⟨_, l, rfl, p'⟩, q⟩
  | false => exact q
end L2
namespace L2
open PySem PySem.Spec PyProof.Rows
abbrev R2 := V → V → Hp → VK → Prop
/-- a two-place operation on values: f is binaryOp op, inplaceOp op or compareOp op -/
def OpR (X : Cx) (f : Value → Value → Sem Value) (r : R2) : Prop :=
  ∀ (pins : List (Addr × Obj)) (s : Shared) (σ : St) (H : Hp) (x y : V) (v u : Value) (Q : VK), Inv X pins σ H s → RelV x v → RelV y u → r x y H Q →
    wpAny (model X.prog X.w) X.A (f v u) (EP X pins σ Q) X.xe s
/-- a one-place operation -/
def UnR (X : Cx) (f : Value → Sem Value) (r : V → Hp → VK → Prop) : Prop :=
  ∀ (pins : List (Addr × Obj)) (s : Shared) (σ : St) (H : Hp) (x : V) (v : Value) (Q : VK), Inv X pins σ H s → RelV x v → r x H Q →
    wpAny (model X.prog X.w) X.A (f v) (EP X pins σ Q) X.xe s
/-- a call of a value that is known (a builtin, a type) with values -/
def CallR (X : Cx) (f : Value) (r : List V → Hp → VK → Prop) : Prop :=
  ∀ (pins : List (Addr × Obj)) (s : Shared) (σ : St) (H : Hp) (xs : List V) (us : List Value) (Q : VK), Inv X pins σ H s → Vals xs us → r xs H Q →
    wpAny (model X.prog X.w) X.A (call f us) (EP X pins σ Q) X.xe s
/-- a value's truth -/
def TruR (X : Cx) (r : V → Hp → (Bool → Hp → Prop) → Prop) : Prop :=
  ∀ (pins : List (Addr × Obj)) (s : Shared) (σ : St) (H : Hp) (x : V) (v : Value) (Q : Bool → Hp → Prop), Inv X pins σ H s → RelV x v → r x H Q →
    wpAny (model X.prog X.w) X.A (truthy v) (TP X pins σ Q) X.xe s
def tOp (r : R2) (ta tb : TE) : TE := fun σ H Q => ta σ H fun x H1 => tb σ H1 fun y H2 => r x y H2 Q
def tUn (r : V → Hp → VK → Prop) (ta : TE) : TE := fun σ H Q => ta σ H fun x H1 => r x H1 Q
/-- ints in, under C, and a value out -/
def rI (C : Int → Int → Prop) (g : Int → Int → V) : R2 := fun x y H Q => ∃ i j, x = .int i ∧ y = .int j ∧ C i j ∧ Q (g i j) H
def rI0 (g : Int → Int → V) : R2 := fun x y H Q => ∃ i j, x = .int i ∧ y = .int j ∧ Q (g i j) H
def rU (g : Int → V) : V → Hp → VK → Prop := fun x H Q => ∃ i, x = .int i ∧ Q (g i) H
section
variable {X : Cx} {a b c : Expr} {ta tb tc : TE} {pos : Pos}
theorem binT (ha : PE X a ta) (hb : PE X b tb) {pins : List (Addr × Obj)} {s : Shared} {σ : St} {H : Hp} {R : V → V → Hp → Prop} (I : Inv X pins σ H s)
    (h : ta σ H fun x H1 => tb σ H1 fun y H2 => R x y H2) {Q : Value → Shared → Prop} {f : Value → Value → Sem Value}
    (hf : ∀ v u s2 x y H2, Inv X pins σ H2 s2 → RelV x v → RelV y u → R x y H2 → wpAny (model X.prog X.w) X.A (f v u) Q X.xe s2) :
    wpAny (model X.prog X.w) X.A (eval a X.env) (fun v s₁ => wpAny (model X.prog X.w) X.A (eval b X.env) (fun u s₂ => wpAny (model X.prog X.w) X.A (f v u) Q X.xe s₂) X.xe s₁) X.xe s := by
  refine thn (ha pins s σ H _ I h) fun v s1 ⟨x, H1, I1, r1, q1⟩ => ?_
  refine thn (hb pins s1 σ H1 _ I1 q1) fun u s2 ⟨y, H2, I2, r2, q2⟩ => ?_
  exact hf v u s2 x y H2 I2 r1 r2 q2
theorem pe_op {op : Operator} {r : R2} (ho : OpR X (binaryOp op) r) (ha : PE X a ta) (hb : PE X b tb) : PE X (.BinOp a op b pos) (tOp r ta tb) := by
  intro pins s σ H Q I h
  exact wpAny_BinOp (binT ha hb I h fun v u s2 x y H2 I2 rx ry q => ho pins s2 σ H2 x y v u Q I2 rx ry q)
theorem pe_un {op : UnaryOp} {r : V → Hp → VK → Prop} (ho : UnR X (unaryOp op) r) (ha : PE X a ta) : PE X (.UnaryOp op a pos) (tUn r ta) := by
  intro pins s σ H Q I h
  exact UnaryOp_ (thn (ha pins s σ H _ I h) fun v s1 ⟨x, H1, I1, r1, q1⟩ => ho pins s1 σ H1 x v Q I1 r1 q1)
/-! ### ints -/
theorem opI {f : Value → Value → Sem Value} {C : Int → Int → Prop} {g : Int → Int → Int}
    (rule : ∀ (i j : Int) (t u : Tok) (s : Shared) (Q : Value → Shared → Prop) (E : Value → Shared → Prop), C i j → Q (.int (g i j) s.toks) { s with toks := s.toks + 1 } → wpAny (model X.prog X.w) X.A (f (.int i t) (.int j u)) Q E s) :
    OpR X f (rI C fun i j => .int (g i j)) := by
  intro pins s σ H x y v u Q I rx ry h
  obtain ⟨i, j, rfl, rfl, hc, q⟩ := h
  obtain ⟨t, rfl⟩ := rx
  obtain ⟨t', rfl⟩ := ry
  exact rule i j t t' s _ _ hc ⟨.int (g i j), H, I.tok _, ⟨_, rfl⟩, q⟩
theorem opI0 {f : Value → Value → Sem Value} {g : Int → Int → Int}
    (rule : ∀ (i j : Int) (t u : Tok) (s : Shared) (Q : Value → Shared → Prop) (E : Value → Shared → Prop), Q (.int (g i j) s.toks) { s with toks := s.toks + 1 } → wpAny (model X.prog X.w) X.A (f (.int i t) (.int j u)) Q E s) :
    OpR X f (rI0 fun i j => .int (g i j)) := by
  intro pins s σ H x y v u Q I rx ry h
  obtain ⟨i, j, rfl, rfl, q⟩ := h
  obtain ⟨t, rfl⟩ := rx
  obtain ⟨t', rfl⟩ := ry
  exact rule i j t t' s _ _ ⟨.int (g i j), H, I.tok _, ⟨_, rfl⟩, q⟩
theorem opB0 {f : Value → Value → Sem Value} {g : Int → Int → Bool}
    (rule : ∀ (i j : Int) (t u : Tok) (s : Shared) (Q : Value → Shared → Prop) (E : Value → Shared → Prop), Q (.bool (g i j)) s → wpAny (model X.prog X.w) X.A (f (.int i t) (.int j u)) Q E s) :
    OpR X f (rI0 fun i j => .bl (g i j)) := by
  intro pins s σ H x y v u Q I rx ry h
  obtain ⟨i, j, rfl, rfl, q⟩ := h
  obtain ⟨t, rfl⟩ := rx
  obtain ⟨t', rfl⟩ := ry
  exact rule i j t t' s _ _ ⟨.bl (g i j), H, I, rfl, q⟩
def CDiv (i j : Int) : Prop := 0 < j ∧ j < 1073741824
def CMul (i j : Int) : Prop := (-(2 ^ 64) < i ∧ i < 2 ^ 64) ∨ (-(2 ^ 64) < j ∧ j < 2 ^ 64)
theorem CMul.ok {i j : Int} (h : CMul i j) : IntMulOk i j := by
  rcases h with ⟨h1, h2⟩ | ⟨h1, h2⟩
  · exact .of_left (intBits_le_64 h1 h2)
  · exact .of_right (intBits_le_64 h1 h2)
theorem two_pow_nn (k : Nat) : (0 : Int) ≤ 2 ^ k := by
  rw [two_pow_cast]
  exact Int.natCast_nonneg _
theorem op_add : OpR X (binaryOp .Add) (rI0 fun i j => .int (i + j)) := opI0 fun _ _ _ _ _ _ _ q => add_int q
theorem op_sub : OpR X (binaryOp .Sub) (rI0 fun i j => .int (i - j)) := opI0 fun _ _ _ _ _ _ _ q => sub_int q
theorem op_mul : OpR X (binaryOp .Mult) (rI CMul fun i j => .int (i * j)) := opI fun _ _ _ _ _ _ _ hc q => mul_int q hc.ok
/-- // by a positive divisor -/
theorem op_fdiv : OpR X (binaryOp .FloorDiv) (rI CDiv fun i j => .int (i / j)) := opI fun i j _ _ _ _ _ hc q => by
  have h1 : (0 : Int) < j := hc.1
  have h2 : j < 1073741824 := hc.2
  exact floordiv_int (by omega) (by rw [Int.fdiv_eq_ediv_of_nonneg i (by omega)]; exact q) (.inl (PyProof.noPylong_small (by omega)))
/-- % by a positive divisor of any size -/
theorem op_mod : OpR X (binaryOp .Mod) (rI (fun _ j => 0 < j) fun i j => .int (i % j)) := opI fun i j _ _ _ _ _ hc q => by
  have h1 : (0 : Int) < j := hc
  exact mod_int' (by omega) (by rw [Int.fmod_eq_emod_of_nonneg i (by omega)]; exact q)
theorem op_shr : OpR X (binaryOp .RShift) (rI (fun _ j => 0 ≤ j) fun i j => .int (i / 2 ^ j.toNat)) := opI fun i j _ _ _ _ _ hc q =>
  rshift_int hc (by rw [Int.fdiv_eq_ediv_of_nonneg i (two_pow_nn _)]; exact q)
theorem op_and : OpR X (binaryOp .BitAnd) (rI0 fun i j => .int (Builtin.bitAnd i j)) := opI0 fun _ _ _ _ _ _ _ q => and_int q
theorem op_or : OpR X (binaryOp .BitOr) (rI0 fun i j => .int (Builtin.bitOr i j)) := opI0 fun _ _ _ _ _ _ _ q => or_int q
theorem op_xor : OpR X (binaryOp .BitXor) (rI0 fun i j => .int (Builtin.bitXor i j)) := opI0 fun _ _ _ _ _ _ _ q => xor_int q
theorem unI {f : Value → Sem Value} {g : Int → Int}
    (rule : ∀ (i : Int) (t : Tok) (s : Shared) (Q : Value → Shared → Prop) (E : Value → Shared → Prop), Q (.int (g i) s.toks) { s with toks := s.toks + 1 } → wpAny (model X.prog X.w) X.A (f (.int i t)) Q E s) :
    UnR X f (rU fun i => .int (g i)) := by
  intro pins s σ H x v Q I rx h
  obtain ⟨i, rfl, q⟩ := h
  obtain ⟨t, rfl⟩ := rx
  exact rule i t s _ _ ⟨.int (g i), H, I.tok _, ⟨_, rfl⟩, q⟩
theorem un_neg : UnR X (unaryOp .USub) (rU fun i => .int (-i)) := unI fun _ _ _ _ _ q => neg_int q
/-! ### bools among ints: n += (a < b) -/
end
/-! ### comparisons -/
/-- the scalars that == tells apart as data does -/
def scal : V → V → Bool
  | .non, .non => true | .non, .int _ => true | .int _, .non => true | .non, .bl _ => true | .bl _, .non => true | .non, .str _ => true | .str _, .non => true
  | .int _, .int _ => true | .bl _, .bl _ => true | .str _, .str _ => true | .byt _, .byt _ => true
  | .int _, .str _ => true | .str _, .int _ => true | .bl _, .str _ => true | .str _, .bl _ => true
  | _, _ => false
def rEq : R2 := fun x y H Q => scal x y = true ∧ Q (.bl (decide (x = y))) H
def rNe : R2 := fun x y H Q => scal x y = true ∧ Q (.bl (!decide (x = y))) H
theorem dec_int {i j : Int} : decide (V.int i = V.int j) = (i == j) := by
  rw [Bool.eq_iff_iff]
  simp
theorem dec_bl {i j : Bool} : decide (V.bl i = V.bl j) = (i == j) := by
  rw [Bool.eq_iff_iff]
  simp
theorem dec_str {i j : Str} : decide (V.str i = V.str j) = (i == j) := by
  rw [Bool.eq_iff_iff]
  simp
theorem dec_byt {i j : Array UInt8} : decide (V.byt i = V.byt j) = (i.toList == j.toList) := by
  rw [Bool.eq_iff_iff]
  cases i
  cases j
  simp
section
variable {X : Cx} {a b c : Expr} {ta tb tc : TE} {pos : Pos}
theorem fin_bl {pins : List (Addr × Obj)} {σ : St} {H : Hp} {s : Shared} {Q : VK} {k k' : Bool} (I : Inv X pins σ H s) (q : Q (.bl k) H) (e : k = k') : EP X pins σ Q (.bool k') s := by
  subst e
  exact ⟨.bl k, H, I, rfl, q⟩
theorem op_eq : OpR X (compareOp .Eq) rEq := by
  intro pins s σ H x y v u Q I rx ry h
  obtain ⟨hs, q⟩ := h
  cases x with
  | non =>
    cases rx
    cases y with
    | non => cases ry; exact PySem.EqNone.eq_none_none (fin_bl I q (by simp))
    | bl j => cases ry; exact PySem.EqNone.eq_none_bool (fin_bl I q (by simp))
    | int j => obtain ⟨t', rfl⟩ := ry; exact PySem.EqNone.eq_none_int (fin_bl I q (by simp))
    | str j => obtain ⟨t', rfl⟩ := ry; exact PySem.EqNone.eq_none_str (fin_bl I q (by simp))
    | _ => exact absurd (show false = true from hs) Bool.false_ne_true
  | bl i =>
    cases rx
    cases y with
    | non => cases ry; exact PySem.EqNone.eq_bool_none (fin_bl I q (by simp))
    | bl j => cases ry; exact eq_bool (fin_bl I q dec_bl)
    | str j => obtain ⟨t', rfl⟩ := ry; exact PySem.EqMixed.eq_bool_str (fin_bl I q (by simp))
    | _ => exact absurd (show false = true from hs) Bool.false_ne_true
  | int i =>
    obtain ⟨t, rfl⟩ := rx
    cases y with
    | non => cases ry; exact PySem.EqNone.eq_int_none (fin_bl I q (by simp))
    | int j => obtain ⟨t', rfl⟩ := ry; exact eq_int (fin_bl I q dec_int)
    | str j => obtain ⟨t', rfl⟩ := ry; exact PySem.EqMixed.eq_int_str (fin_bl I q (by simp))
    | _ => exact absurd (show false = true from hs) Bool.false_ne_true
  | str i =>
    obtain ⟨t, rfl⟩ := rx
    cases y with
    | non => cases ry; exact PySem.EqNone.eq_str_none (fin_bl I q (by simp))
    | bl j => cases ry; exact PySem.EqMixed.eq_str_bool (fin_bl I q (by simp))
    | int j => obtain ⟨t', rfl⟩ := ry; exact PySem.EqMixed.eq_str_int (fin_bl I q (by simp))
    | str j => obtain ⟨t', rfl⟩ := ry; exact eq_str (fin_bl I q dec_str)
    | _ => exact absurd (show false = true from hs) Bool.false_ne_true
  | byt i =>
    obtain ⟨t, rfl⟩ := rx
    cases y with
    | byt j => obtain ⟨t', rfl⟩ := ry; exact PySem.W.eq_bytes (fin_bl I q dec_byt)
    | _ => exact absurd (show false = true from hs) Bool.false_ne_true
  | _ => cases y <;> exact absurd (show false = true from hs) Bool.false_ne_true
theorem op_ne : OpR X (compareOp .NotEq) rNe := by
  intro pins s σ H x y v u Q I rx ry h
  obtain ⟨hs, q⟩ := h
  cases x with
  | non =>
    cases rx
    cases y with
    | non => cases ry; exact PySem.EqNone.ne_none_none (fin_bl I q (by simp))
    | bl j => cases ry; exact PySem.EqNone.ne_none_bool (fin_bl I q (by simp))
    | int j => obtain ⟨t', rfl⟩ := ry; exact PySem.EqNone.ne_none_int (fin_bl I q (by simp))
    | str j => obtain ⟨t', rfl⟩ := ry; exact PySem.EqNone.ne_none_str (fin_bl I q (by simp))
    | _ => exact absurd (show false = true from hs) Bool.false_ne_true
  | bl i =>
    cases rx
    cases y with
    | non => cases ry; exact PySem.EqNone.ne_bool_none (fin_bl I q (by simp))
    | bl j => cases ry; exact ne_bool (fin_bl I q (congrArg not dec_bl))
    | str j => obtain ⟨t', rfl⟩ := ry; exact PySem.EqMixed.ne_bool_str (fin_bl I q (by simp))
    | _ => exact absurd (show false = true from hs) Bool.false_ne_true
  | int i =>
    obtain ⟨t, rfl⟩ := rx
    cases y with
    | non => cases ry; exact PySem.EqNone.ne_int_none (fin_bl I q (by simp))
    | int j => obtain ⟨t', rfl⟩ := ry; exact ne_int (fin_bl I q (congrArg not dec_int))
    | str j => obtain ⟨t', rfl⟩ := ry; exact PySem.EqMixed.ne_int_str (fin_bl I q (by simp))
    | _ => exact absurd (show false = true from hs) Bool.false_ne_true
  | str i =>
    obtain ⟨t, rfl⟩ := rx
    cases y with
    | non => cases ry; exact PySem.EqNone.ne_str_none (fin_bl I q (by simp))
    | bl j => cases ry; exact PySem.EqMixed.ne_str_bool (fin_bl I q (by simp))
    | int j => obtain ⟨t', rfl⟩ := ry; exact PySem.EqMixed.ne_str_int (fin_bl I q (by simp))
    | str j => obtain ⟨t', rfl⟩ := ry; exact ne_str (fin_bl I q (congrArg not dec_str))
    | _ => exact absurd (show false = true from hs) Bool.false_ne_true
  | byt i =>
    obtain ⟨t, rfl⟩ := rx
    cases y with
    | byt j => obtain ⟨t', rfl⟩ := ry; exact PySem.W.ne_bytes (fin_bl I q (congrArg not dec_byt))
    | _ => exact absurd (show false = true from hs) Bool.false_ne_true
  | _ => cases y <;> exact absurd (show false = true from hs) Bool.false_ne_true
theorem op_lt : OpR X (compareOp .Lt) (rI0 fun i j => .bl (decide (i < j))) := opB0 fun _ _ _ _ _ _ _ q => lt_int q
theorem op_le : OpR X (compareOp .LtE) (rI0 fun i j => .bl (decide (i ≤ j))) := opB0 fun _ _ _ _ _ _ _ q => le_int q
theorem op_gt : OpR X (compareOp .Gt) (rI0 fun i j => .bl (decide (j < i))) := opB0 fun _ _ _ _ _ _ _ q => gt_int q
theorem op_ge : OpR X (compareOp .GtE) (rI0 fun i j => .bl (decide (j ≤ i))) := opB0 fun _ _ _ _ _ _ _ q => ge_int q
theorem nomark (b : Expr) {op : CmpOp} (h : op ≠ .In := by decide) (h2 : op ≠ .NotIn := by decide) : behindInMarks op b = false := by
  have e1 : (op == CmpOp.In) = false := by cases op <;> first | rfl | exact absurd rfl h
  have e2 : (op == CmpOp.NotIn) = false := by cases op <;> first | rfl | exact absurd rfl h2
  cases b <;> simp [behindInMarks, e1, e2]
/-- a comparison as a value; hm: nomark b, or (for in, not in) by with_unfolding_all rfl -/
theorem pe_cmpR {op : CmpOp} {r : R2} (ho : OpR X (compareOp op) r) (ha : PE X a ta) (hb : PE X b tb) (hm : behindInMarks op b = false) : PE X (.Compare a [op] [b] pos) (tOp r ta tb) := by
  intro pins s σ H Q I h
  exact wpAny_Compare1 (binT ha hb I h fun v u s2 x y H2 I2 rx ry q => ho pins s2 σ H2 x y v u Q I2 rx ry q) hm
/-- a reading of a value as a test -/
def tTest (t : TE) : TT := fun σ H Q => t σ H fun x H' => ∃ k, x = .bl k ∧ Q k H'
theorem pt_cmpR {op : CmpOp} {r : R2} (ho : OpR X (compareOp op) r) (ha : PE X a ta) (hb : PE X b tb) (hm : behindInMarks op b = false) : PT X (.Compare a [op] [b] pos) (tTest (tOp r ta tb)) := by
  intro pins s σ H Q I h
  refine wpAny_isTrue_Compare1 (thn (ha pins s σ H _ I h) fun v s1 ⟨x, H1, I1, r1, q1⟩ => thn (hb pins s1 σ H1 _ I1 q1) fun u s2 ⟨y, H2, I2, r2, q2⟩ =>
    thn (ho pins s2 σ H2 x y v u _ I2 r1 r2 q2) fun c s3 ⟨z, H3, I3, r3, k, e, q3⟩ => ?_) hm
  subst e
  cases r3
  exact wpAny_truthy_bool ⟨H3, I3, q3⟩
/-! ### truth -/
/-- a value's truth by the abstract heap -/
def TruV (K : PySem.W.Frag) (x : V) (H : Hp) (k : Bool) : Prop :=
  match x with
  | .non => k = false
  | .bl b => k = b
  | .int i => k = (i != 0)
  | .str y => y.length ≤ sizeLine ∧ k = ((y.length : Int) != 0)
  | .byt y => y.size ≤ sizeLine ∧ k = ((y.size : Int) != 0)
  | .ref p => (∃ xs, SqL K H p xs ∧ k = !xs.isEmpty) ∨ (∃ xs, SqT K H p xs ∧ k = !xs.isEmpty) ∨ ∃ kvs, H p = some (.dK kvs) ∧ k = !kvs.isEmpty
  | _ => False
theorem isEmpty_kv {κ : Type} {kvs : List (κ × V)} {vs : List (κ × Value)} (r : KV kvs vs) : (!vs.isEmpty) = !kvs.isEmpty := by
  cases r <;> rfl
theorem isEmpty_of {xs : List V} {its : List Value} (r : Vals xs its) : (!its.toArray.isEmpty) = !xs.isEmpty := by
  cases r <;> simp
theorem line63 : (sizeLine : Nat) < 2 ^ 63 := by rw [sizeLine_eq]; decide
theorem tru_ok : TruR X (fun x H Q => ∃ k, TruV X.K x H k ∧ Q k H) := by
  intro pins s σ H x v Q I rx h
  obtain ⟨k, e, q⟩ := h
  have hl := line63
  have hs : sizeLine = 16777216 := sizeLine_eq
  cases x with
  | non =>
    cases rx
    have e' : k = false := e
    subst e'
    exact truthy_none ⟨H, I, q⟩
  | bl b =>
    cases rx
    have e' : k = b := e
    subst e'
    exact wpAny_truthy_bool ⟨H, I, q⟩
  | int i =>
    obtain ⟨t, rfl⟩ := rx
    have e' : k = (i != 0) := e
    subst e'
    exact PySem.P.truthy_int ⟨H, I, q⟩
  | str y =>
    obtain ⟨t, rfl⟩ := rx
    obtain ⟨hy, e'⟩ : y.length ≤ sizeLine ∧ k = ((y.length : Int) != 0) := e
    subst e'
    exact PySem.P.truthy_str (by omega) ⟨H, I.tok _, q⟩
  | byt y =>
    obtain ⟨t, rfl⟩ := rx
    obtain ⟨hy, e'⟩ : y.size ≤ sizeLine ∧ k = ((y.size : Int) != 0) := e
    subst e'
    exact PySem.W.truthy_bytes (by omega) ⟨H, I.tok _, q⟩
  | ref p =>
    cases rx
    have e' : (∃ xs, SqL X.K H p xs ∧ k = !xs.isEmpty) ∨ (∃ xs, SqT X.K H p xs ∧ k = !xs.isEmpty) ∨ ∃ kvs, H p = some (.dK kvs) ∧ k = !kvs.isEmpty := e
    rcases e' with ⟨xs, hx, e'⟩ | ⟨xs, hx, e'⟩ | ⟨kvs, hx, e'⟩
    · subst e'
      obtain ⟨its, r, pl, hz⟩ := I.list hx
      have hlen := r.length
      exact wpAny_truthy_list pl.isList (by simp only [List.size_toArray]; omega) ⟨H, I.tok _, by rw [isEmpty_of r]; exact q⟩
    · subst e'
      obtain ⟨its, r, pl, hz⟩ := I.tuple hx
      have hlen := r.length
      exact truthy_tuple pl (by simp only [List.size_toArray]; omega) ⟨H, I.tok _, by rw [isEmpty_of r]; exact q⟩
    · subst e'
      obtain ⟨hz, hS, vs, r, m⟩ : kvs.length ≤ sizeLine ∧ (p == sysModules) = false ∧ ∃ vs, KV kvs vs ∧ s.heap.DictOf (mixKind X.prog X.w) p vs := I.hok p _ hx
      have hlen : kvs.length = vs.length := Paired.length r
      exact wpAny_truthy_dict hS m (by omega) ⟨H, I.tok _, by rw [isEmpty_kv r]; exact q⟩
  | _ => exact (show False from e).elim
/-- any expression whose test is its value's truth (a name, a call, a subscript, a field ..: he by fun _ => rfl) -/
theorem pt_truth (ha : PE X a ta) (he : ∀ whole, isTrue a X.env whole = (do let v ← whole; standAt a.pos; holding [v] (truthy v))) :
    PT X a (fun σ H Q => ta σ H fun x H' => ∃ k, TruV X.K x H' k ∧ Q k H') := by
  intro pins s σ H Q I h
  exact isTrue_plain (thn (ha pins s σ H _ I h) fun v s1 ⟨x, H1, I1, r1, q1⟩ => tru_ok pins s1 σ H1 x v Q I1 r1 q1) (he _)
/-! ### strs and bytes -/
/-! ### scalar builtins, by CallR -/
theorem vals1 {x : V} {us : List Value} (r : Vals [x] us) : ∃ u, us = [u] ∧ RelV x u := by
  cases r with
  | cons r1 r2 => cases r2; exact ⟨_, rfl, r1⟩
end
end L2
namespace L2
open PySem PySem.Spec PyProof.Rows
/-! ### an instance, its attributes a map -/
structure ObjM (h : Heap) (x dx C : Addr) (mA : Str → Option Value) : Prop where
  obj : h.get? x = some (PySem.W.instObj C dx)
  ns : h.Ns1 dx mA
  ne : dx ≠ x
theorem lookIn_ns {h : Heap} {dx : Addr} {mA : Str → Option Value} (n : h.Ns1 dx mA) : ∃ od, h.get? dx = some od ∧ ∀ name, PySem.W.lookIn name od = some (mA name) := by
  obtain ⟨o, es, ep, ho, hd, hk, _, hm⟩ := n
  refine ⟨o, ho, fun name => ?_⟩
  have e := hm name
  unfold nsFind findBy at e
  rw [← Array.find?_toList] at e
  unfold PySem.W.lookIn
  rw [hd]
  dsimp only
  split
  · rename_i y q
    rw [q] at e
    exact congrArg some e
  · rename_i q
    rw [q] at e
    have a : es.toList.any (·.refKey) = false := by
      rw [List.any_eq_false]
      intro y hy
      obtain ⟨z, t, hkey⟩ := hk y (Array.mem_toList_iff.mp hy)
      simp [DictEntry.refKey, hkey]
    have a' : ¬ es.toList.any (·.refKey) = true := by rw [a]; exact Bool.false_ne_true
    rw [if_neg a']
    exact congrArg some e
theorem ObjM.look {h : Heap} {x dx C : Addr} {mA : Str → Option Value} (I : ObjM h x dx C mA) : ∃ od, PySem.W.InstAt h x (PySem.W.instObj C dx) C (some od) ∧ ∀ name, PySem.W.lookIn name od = some (mA name) :=
  let ⟨od, ho, hl⟩ := lookIn_ns I.ns
  ⟨od, ⟨I.obj, rfl, rfl, ho⟩, hl⟩
section
variable {prog : Program} {w : World} {A : Around} {E : Value → Shared → Prop} {s : Shared} {K : PySem.W.Frag} {x dx C f : Addr} {mA : Str → Option Value} {name : Str} {v : Value}
theorem get_map {expr : Bool} {Q : Value → Shared → Prop} (X : K.In s.heap) (I : ObjM s.heap x dx C mA) (hg : PySem.W.plainGet K C name = true) (hh : PySem.W.hasDictIn K C = true)
    (ha : PySem.W.findIn K (.ref C) name = some none) (hv : mA name = some v) (hv' : PySem.W.handedIn v = true) (h : Q v { s with toks := s.toks + 1 }) :
    wpAny (model prog w) A (getAttr (.ref x) name expr) Q E s := by
  obtain ⟨od, J, hl⟩ := I.look
  exact PySem.W.get_value X J (PySem.W.plainGet_of hg).1 (PySem.W.findObj_own hh ha rfl (by rw [hl, hv])) hv' h
theorem get_meth {pl : Sem Bool} {Q : Value × List Value → Shared → Prop} (X : K.In s.heap) (I : ObjM s.heap x dx C mA) (hg : PySem.W.plainGet K C name = true)
    (hf : PySem.W.findIn K (.ref C) name = some (some (.ref f))) (ht : PySem.W.isFn K (.ref f) = true) (hv : mA name = none) (h : Q (.ref f, [.ref x]) s) :
    wpAny (model prog w) A (getMethod (.ref x) name pl) Q E s := by
  obtain ⟨od, J, hl⟩ := I.look
  exact PySem.W.method_fn X J (PySem.W.plainGet_of hg).1 (PySem.W.plainGet_of hg).2 hf (beq_iff_eq.mp ht) (by show (PySem.W.lookIn name od).map (·.isSome) = some false; rw [hl, hv]; rfl) h
theorem set_map {ns : List Str} {Q : Unit → Shared → Prop} (X : K.In s.heap) (I : ObjM s.heap x dx C mA)
    (hs : PySem.W.findIn K (.ref C) "__setattr__" = some (some (.builtin "object.__setattr__"))) (hp : PySem.W.plainOver K C = true) (ht : PySem.W.takerIn K C name = some none) (hh : PySem.W.hasDictIn K C = true)
    (hw : PySem.Within mA ns) (hsz : ns.length ≤ sizeLine)
    (h : ∀ h', ObjM h' x dx C (fun y => if y = name then some v else mA y) → Heap.SameBut dx s.heap h' → Q () { s with heap := h', toks := s.toks + 2 }) :
    wpAny (model prog w) A (setAttr (.ref x) name v) Q E s := by
  obtain ⟨od, J, hl⟩ := I.look
  refine PySem.W.set_plain X J hs (PySem.W.osa_open (s := { s with toks := s.toks + 1 }) (r := none) X J hp ht fun b => ?_)
  obtain ⟨cd, hc, hd'⟩ := PySem.W.any_some hh
  have hx : s.heap.get? x = some ⟨.ref C, some dx, .plain, #[]⟩ := I.obj
  refine wpAny_bind (wpAny_pure (wpAny_bind (wpAny_bind (wpAny_loadPart hx (wpAny_bind (PySem.W.Looks.here (s := { s with toks := s.toks + 1 }) (PySem.W.looks_clsIn X hc) ?_))))))
  rw [hd']
  refine wpAny_pure (a := some dx) (wpAny_bind (wpAny_pure (wpAny_bind ?_)))
  refine wpAny_nsSet1 (s := { s with toks := s.toks + 1 }) I.ns fun h' hn2 hs2 => ?_
  obtain ⟨oD, esD, epD, hoD, hdD, hcD⟩ := hn2.count (PySem.Within.cons name v hw)
  refine wpAny_bind (wpAny_lookBehind hoD (by rw [hdD]; exact pastItsLine_dict (Nat.le_trans hcD (by rw [List.length_cons]; omega))) ?_)
  exact wpAny_pure (h _ ⟨(hs2.2 _ (Ne.symm I.ne)).trans I.obj, hn2, I.ne⟩ hs2)
/-- C(..): the dict at the heap's end, the instance behind it; then its __init__ -/
theorem make_map {R : Result → Shared → Prop} {vs : List Value} {kw : List (Str × Value)} (X : K.In s.heap) (hm : PySem.W.makesIn K C = true)
    (hi : PySem.W.findIn K (.ref C) "__init__" = some (some (.ref f))) (hf : PySem.W.typeIn K (.ref f) = some (.type "function"))
    (h : codeAny (model prog w) (A.under (.builtin "type.__call__" ⟨.ref C :: vs, kw⟩)) (.call (.ref f) ⟨.ref (s.heap.objs.size + 1) :: vs, kw⟩) (PySem.W.InitBack (s.heap.objs.size + 1) R)
      { s with heap := (s.heap.push PySem.W.emptyDict).push (PySem.W.instObj C s.heap.objs.size) }) :
    codeAny (model prog w) A (.call (.ref C) ⟨vs, kw⟩) R s := by
  obtain ⟨hh, g, d, t, os⟩ := s
  exact PySem.W.make_core (PySem.W.makes_of X hm) (PySem.W.looks_findIn X hi) (fun self => PySem.W.bind_fn X self hf) (.inl rfl) h
end
/-! ### the attributes as a list of pairs -/
def putF (f : Str) (v : V) : List (Str × V) → List (Str × V)
  | [] => [(f, v)]
  | (g, x) :: r => if g = f then (g, v) :: r else (g, x) :: putF f v r
theorem lookup_putF (f g : Str) (v : V) : ∀ fs : List (Str × V), (putF f v fs).lookup g = if g = f then some v else fs.lookup g
  | [] => by
    show List.lookup g [(f, v)] = _
    by_cases h : g = f
    · have hb : (g == f) = true := beq_iff_eq.mpr h
      simp only [List.lookup, hb, if_pos h]
    · have hb : (g == f) = false := beq_eq_false_iff_ne.mpr h
      simp only [List.lookup, hb, if_neg h]
  | (k, x) :: r => by
    have ih := lookup_putF f g v r
    rw [show putF f v ((k, x) :: r) = (if k = f then (k, v) :: r else (k, x) :: putF f v r) from rfl]
    by_cases hk : k = f
    · rw [if_pos hk]
      by_cases h : g = k
      · have hb : (g == k) = true := beq_iff_eq.mpr h
        simp only [List.lookup, hb, if_pos (h.trans hk)]
      · have hb : (g == k) = false := beq_eq_false_iff_ne.mpr h
        simp only [List.lookup, hb, if_neg (fun e : g = f => h (e.trans hk.symm))]
    · rw [if_neg hk]
      by_cases h : g = k
      · have hb : (g == k) = true := beq_iff_eq.mpr h
        simp only [List.lookup, hb, if_neg (fun e : g = f => hk (h.symm.trans e))]
      · have hb : (g == k) = false := beq_eq_false_iff_ne.mpr h
        simp only [List.lookup, hb]
        exact ih
theorem keys_putF (f : Str) (v : V) : ∀ fs : List (Str × V), f ∈ (putF f v fs).map (·.1) ∧ ∀ g, g ∈ fs.map (·.1) → g ∈ (putF f v fs).map (·.1)
  | [] => ⟨by simp [putF], fun g h => by simp at h⟩
  | (k, x) :: r => by
    obtain ⟨i1, i2⟩ := keys_putF f v r
    rw [show putF f v ((k, x) :: r) = (if k = f then (k, v) :: r else (k, x) :: putF f v r) from rfl]
    by_cases hk : k = f
    · rw [if_pos hk]
      subst hk
      exact ⟨by simp, fun g h => by simpa using h⟩
    · rw [if_neg hk]
      refine ⟨?_, fun g h => ?_⟩
      · rw [List.map_cons]
        exact List.mem_cons_of_mem _ i1
      · rw [List.map_cons] at h ⊢
        rcases List.mem_cons.mp h with e | e
        · exact List.mem_cons.mpr (.inl e)
        · exact List.mem_cons_of_mem _ (i2 g e)
theorem length_putF (f : Str) (v : V) : ∀ fs : List (Str × V), (putF f v fs).length ≤ fs.length + 1
  | [] => by simp [putF]
  | (k, x) :: r => by
    have ih := length_putF f v r
    rw [show putF f v ((k, x) :: r) = (if k = f then (k, v) :: r else (k, x) :: putF f v r) from rfl]
    by_cases hk : k = f
    · rw [if_pos hk, List.length_cons, List.length_cons]; omega
    · rw [if_neg hk, List.length_cons, List.length_cons]; omega
theorem RelO.some_of {v : V} {o : Option Value} (r : RelO (some v) o) : ∃ u, o = some u ∧ RelV v u := by
  cases o with
  | none => exact (show False from r).elim
  | some u => exact ⟨u, rfl, r⟩
theorem RelO.none_of {o : Option Value} (r : RelO none o) : o = none := by
  cases o with
  | none => rfl
  | some u => exact (show False from r).elim
theorem handed_of {v : V} {u : Value} (r : RelV v u) : PySem.W.handedIn u = true := by
  cases v with
  | non => cases (show u = Value.none from r); rfl
  | bl b => cases (show u = Value.bool b from r); rfl
  | int i => obtain ⟨t, e⟩ := (show ∃ t, u = Value.int i t from r); cases e; rfl
  | str x => obtain ⟨t, e⟩ := (show ∃ t, u = Value.str x t from r); cases e; rfl
  | byt b => obtain ⟨t, e⟩ := (show ∃ t, u = Value.bytes b t from r); cases e; rfl
  | flt b => obtain ⟨t, e⟩ := (show ∃ t, u = Value.float b t from r); cases e; rfl
  | ref a => cases (show u = Value.ref a from r); rfl
  | ty n => cases (show u = Value.type n from r); rfl
section
variable {P : Program} {w : World} {H H' : Hp} {h h' : Heap} {a C dx : Addr} {fs fs' : List (Str × V)}
theorem ins_get (hok : HOk P w H h) (e : H a = some (.ins C dx fs)) : ∃ mA, ObjM h a dx C mA ∧ (∀ f, RelO (fs.lookup f) (mA f)) ∧ PySem.Within mA (fs.map (·.1)) ∧ fs.length ≤ 1000 ∧ H dx = some (.own a) := by
  obtain ⟨d, z, ne, ob, mA, n, r, q⟩ := (show ObjOk P w H h a (.ins C dx fs) from hok a _ e)
  exact ⟨mA, ⟨ob, n, ne⟩, r, q, z, d⟩
end
/-! ### what of the text a class must have -/
structure Cls (K : PySem.W.Frag) (C : Addr) : Prop where
  pg : PySem.W.plainGet K C Str.empty = true
  hd : PySem.W.hasDictIn K C = true
  po : PySem.W.plainOver K C = true
  sa : PySem.W.findIn K (.ref C) "__setattr__" = some (some (.builtin "object.__setattr__"))
theorem Cls.get {K : PySem.W.Frag} {C : Addr} (c : Cls K C) (f : Str) : PySem.W.plainGet K C f = true := c.pg
/-- no class of it has the name -/
def NoAttr (K : PySem.W.Frag) (C : Addr) (f : Str) : Prop := PySem.W.findIn K (.ref C) f = some none
theorem NoAttr.taker {K : PySem.W.Frag} {C : Addr} {f : Str} (n : NoAttr K C f) : PySem.W.takerIn K C f = some none := by
  unfold PySem.W.takerIn
  rw [show PySem.W.findIn K (.ref C) f = some none from n]
  rfl
/-- a method: a plain def of the class or of one above it -/
structure Meth (K : PySem.W.Frag) (C : Addr) (m : Str) (f : Addr) : Prop where
  at_ : PySem.W.findIn K (.ref C) m = some (some (.ref f))
  fn : PySem.W.isFn K (.ref f) = true
  kp : PySem.W.keepIn K (.ref f) = true
section
variable {X : Cx} {pins : List (Addr × Obj)} {σ : St} {H : Hp} {s : Shared} {a C dx : Addr} {fs : List (Str × V)} {f : Str} {v : V} {A : Around} {E : Value → Shared → Prop}
theorem getattr_ok {b : Bool} {Q : Value → Shared → Prop} (I : Inv X pins σ H s) (e : H a = some (.ins C dx fs)) (c : Cls X.K C) (n : NoAttr X.K C f) (l : fs.lookup f = some v)
    (h : ∀ u s', Inv X pins σ H s' → RelV v u → Q u s') : wpAny (model X.prog X.w) A (getAttr (.ref a) f b) Q E s := by
  obtain ⟨mA, O, r, _, _, _⟩ := ins_get I.hok e
  obtain ⟨u, hu, ru⟩ := RelO.some_of (v := v) (o := mA f) (by rw [← l]; exact r f)
  exact get_map I.kIn O (c.get f) c.hd n hu (handed_of ru) (h u _ (I.tok _) ru)
theorem getmeth_ok {m : Str} {g : Addr} {pl : Sem Bool} {Q : Value × List Value → Shared → Prop} (I : Inv X pins σ H s) (e : H a = some (.ins C dx fs)) (c : Cls X.K C) (k : Meth X.K C m g) (l : fs.lookup m = none)
    (h : Q (.ref g, [.ref a]) s) : wpAny (model X.prog X.w) A (getMethod (.ref a) m pl) Q E s := by
  obtain ⟨mA, O, r, _, _, _⟩ := ins_get I.hok e
  have hn : mA m = none := RelO.none_of (by rw [← l]; exact r m)
  exact get_meth I.kIn O (c.get m) k.at_ k.fn hn h
theorem setattr_ok {y : V} {u : Value} {Q : Unit → Shared → Prop} (I : Inv X pins σ H s) (e : H a = some (.ins C dx fs)) (c : Cls X.K C) (n : NoAttr X.K C f) (hl : fs.length < 1000) (ry : RelV y u)
    (h : ∀ s', Inv X pins σ (upd H a (.ins C dx (putF f y fs))) s' → Q () s') : wpAny (model X.prog X.w) A (setAttr (.ref a) f u) Q E s := by
  obtain ⟨mA, O, r, wi, _, ho⟩ := ins_get I.hok e
  have hz : (fs.map (·.1)).length ≤ sizeLine := by rw [List.length_map, sizeLine_eq]; omega
  refine set_map I.kIn O c.sa c.po n.taker c.hd wi hz fun h' O' sb => h _ ?_
  have hd : ∃ o, h'.get? dx = some o := let ⟨o, _, _, e', _⟩ := O'.ns; ⟨o, e'⟩
  refine I.write (x := a) (e := dx) (by rw [e]; exact True.intro) (.inr ho) (fun b q hb z => (sb.2 b hb).trans z) hd ?_
  refine ⟨by rw [upd_ne O.ne]; exact ho, ?_, O.ne, O'.obj, _, O'.ns, fun g => ?_, fun g hg => ?_⟩
  · have := length_putF f y fs; omega
  · show RelO ((putF f y fs).lookup g) (if g = f then some u else mA g)
    rw [lookup_putF]
    by_cases q : g = f
    · rw [if_pos q, if_pos q]; exact ry
    · rw [if_neg q, if_neg q]; exact r g
  · by_cases q : g = f
    · rw [q]; exact (keys_putF f y fs).1
    · refine (keys_putF f y fs).2 g (wi g fun z => hg ?_)
      show (if g = f then some u else mA g) = none
      rw [if_neg q]; exact z
/-- a new instance, tracked, without attributes -/
theorem Inv.made (I : Inv X pins σ H s) : Inv X pins σ (upd (upd H s.heap.objs.size (.own (s.heap.objs.size + 1))) (s.heap.objs.size + 1) (.ins C s.heap.objs.size []))
    { s with heap := (s.heap.push PySem.W.emptyDict).push (PySem.W.instObj C s.heap.objs.size) } := by
  have e1 : (s.heap.push PySem.W.emptyDict).get? s.heap.objs.size = some PySem.W.emptyDict := Heap.get?_push_size s.heap rfl
  have e2 : ((s.heap.push PySem.W.emptyDict).push (PySem.W.instObj C s.heap.objs.size)).get? (s.heap.objs.size + 1) = some (PySem.W.instObj C s.heap.objs.size) := by
    have := Heap.get?_push_size (s.heap.push PySem.W.emptyDict) (o := PySem.W.instObj C s.heap.objs.size) rfl
    rwa [Heap.size_push] at this
  have e3 : (s.heap.push PySem.W.emptyDict).Ns s.heap.objs.size (fun _ => none) := ⟨PySem.W.emptyDict, #[], _, e1, rfl, (fun e he => absurd he (by simp)), fun _ => rfl⟩
  have I1 := I.laid (a := s.heap.objs.size) (o := .own (s.heap.objs.size + 1)) (h' := s.heap.push PySem.W.emptyDict) (t' := s.toks) (fun b u q => Heap.get?_push_of_some _ q) (Nat.le_refl _) ⟨_, e1⟩
  refine I1.laid (a := s.heap.objs.size + 1) (o := .ins C s.heap.objs.size []) (t' := s.toks) (fun b u q => Heap.get?_push_of_some _ q) (Nat.le_of_eq (Heap.size_push _ _)) ?_
  have ne : s.heap.objs.size ≠ s.heap.objs.size + 1 := Nat.ne_of_lt (Nat.lt_succ_self _)
  refine ⟨by rw [upd_ne ne, upd_same], Nat.zero_le _, ne, e2, fun _ => none, (Heap.Ns1.of_empty e3).at fun o q => Heap.get?_push_of_some _ q, fun _ => True.intro, fun y hy => absurd rfl hy⟩
/-- e.f where nothing but the object is asked: through attributeBase (super) and the last hold -/
theorem attr_of {prog : Program} {w : World} {env : Env} {e : Expr} {f : Str} {pos : Pos} {s : Shared} {Q : Value → Shared → Prop} (hb : attributeBase e f env (eval e env) = eval e env)
    (h : wpAny (model prog w) A (eval e env) (fun o s₁ => wpAny (model prog w) A (getAttr o f true) Q E s₁) E s) : wpAny (model prog w) A (eval (.Attribute e f pos) env) Q E s :=
  Attribute_any_ h (by rw [arm_eval_Attribute, hb])
end
/-! ### readings and rules -/
/-- e.f, an attribute of the instance -/
def tFld (K : PySem.W.Frag) (ta : TE) (f : Str) : TE := fun σ H Q => ta σ H fun x H1 => ∃ a C dx fs v, x = .ref a ∧ H1 a = some (.ins C dx fs) ∧ Cls K C ∧ NoAttr K C f ∧ fs.lookup f = some v ∧ Q v H1
/-- e.f = value -/
def sFld (K : PySem.W.Frag) (ta tv : TE) (f : Str) : TS := fun D σ H => tv σ H fun y H1 => ta σ H1 fun x H2 => ∃ a C dx fs, x = .ref a ∧ H2 a = some (.ins C dx fs) ∧ Cls K C ∧ NoAttr K C f ∧ fs.length < 1000 ∧
  D.nx σ (upd H2 a (.ins C dx (putF f y fs)))
/-- an augmented operator on two values -/
def InOp (X : Cx) (op : Operator) (rd : V → V → Hp → VK → Prop) : Prop :=
  ∀ (pins : List (Addr × Obj)) (s : Shared) (σ : St) (H : Hp) (x y : V) (u v : Value) (Q : VK), Inv X pins σ H s → RelV x u → RelV y v → rd x y H Q → wpAny (model X.prog X.w) X.A (inplaceOp op u v) (EP X pins σ Q) X.xe s
/-- e.f op= value -/
def sFldAug (K : PySem.W.Frag) (ta tv : TE) (rd : V → V → Hp → VK → Prop) (f : Str) : TS := fun D σ H => ta σ H fun x H1 => ∃ a C dx fs v, x = .ref a ∧ H1 a = some (.ins C dx fs) ∧ Cls K C ∧ NoAttr K C f ∧ fs.lookup f = some v ∧
  tv σ H1 fun y H2 => rd v y H2 fun z H3 => ∃ dx' fs', H3 a = some (.ins C dx' fs') ∧ fs'.length < 1000 ∧ D.nx σ (upd H3 a (.ins C dx' (putF f z fs')))
section
variable {X : Cx} {o e value : Expr} {f : Str} {pos pos' tpos : Pos} {ta tv : TE}
theorem pe_fld (he : PE X e ta) (hb : attributeBase e f X.env (eval e X.env) = eval e X.env) : PE X (.Attribute e f pos) (tFld X.K ta f) := by
  intro pins s σ H Q I h
  refine attr_of hb (thn (he pins s σ H _ I h) fun u s1 ⟨x, H1, I1, rx, a, C, dx, fs, v, ex, ea, c, n, l, q⟩ => ?_)
  subst ex
  obtain rfl : u = Value.ref a := rx
  exact getattr_ok I1 ea c n l fun u' s2 I2 ru => ⟨v, H1, I2, ru, q⟩
theorem ps_fld (ha : PE X o ta) (hv : PE X value tv) (hs : swapsWith value (some (.Attribute o f pos')) pos.line X.env = pure false) : PS X (.Assign [.Attribute o f pos'] value pos) (sFld X.K ta tv f) := by
  intro pins s σ H D I h
  refine plainObj_wpAny_Assign_Attribute (thn (hv pins s σ H _ I h) fun u s1 ⟨y, H1, I1, ry, q⟩ => thn (ha pins s1 σ H1 _ I1 q) fun ov s2 ⟨x, H2, I2, rx, a, C, dx, fs, ex, ea, c, n, l, q2⟩ => ?_) hs
  subst ex
  obtain rfl : ov = Value.ref a := rx
  exact setattr_ok I2 ea c n l ry fun s3 I3 => ⟨σ, _, I3, q2⟩
theorem ps_fldaug {op : Operator} {rd : V → V → Hp → VK → Prop} (ha : PE X o ta) (hv : PE X value tv) (hop : InOp X op rd) : PS X (.AugAssign (.Attribute o f tpos) op value pos) (sFldAug X.K ta tv rd f) := by
  intro pins s σ H D I h
  refine wpAny_AugAssign_AttributeAny (thn (ha pins s σ H _ I h) fun ov s1 ⟨x, H1, I1, rx, a, C, dx, fs, v, ex, ea, c, n, l, q⟩ => ?_)
  subst ex
  obtain rfl : ov = Value.ref a := rx
  refine getattr_ok I1 ea c n l fun u s2 I2 ru => thn (hv pins s2 σ H1 _ I2 q) fun w3 s3 ⟨y, H2, I3, ry, q3⟩ => thn (hop pins s3 σ H2 v y u w3 _ I3 ru ry q3) fun w4 s4 ⟨z, H3, I4, rz, dx', fs', ea', l', q4⟩ => ?_
  exact setattr_ok I4 ea' c n l' rz fun s5 I5 => ⟨σ, _, I5, q4⟩
def rAdd : V → V → Hp → VK → Prop := fun x y H Q => ∃ i j, x = .int i ∧ y = .int j ∧ Q (.int (i + j)) H
def rSub : V → V → Hp → VK → Prop := fun x y H Q => ∃ i j, x = .int i ∧ y = .int j ∧ Q (.int (i - j)) H
theorem in_add : InOp X .Add rAdd := by
  rintro pins s σ H x y u v Q I rx ry ⟨i, j, rfl, rfl, q⟩
  obtain ⟨t, rfl⟩ := (show ∃ t, u = Value.int i t from rx)
  obtain ⟨t', rfl⟩ := (show ∃ t', v = Value.int j t' from ry)
  exact PyProof.Rows.iadd_int ⟨.int (i + j), H, I.tok _, ⟨_, rfl⟩, q⟩
/-- what is between an instance and its method: the tree of a method call -/
theorem methcall_of {pl : Sem Bool} {m : Str} {apos : Pos} {args : List Expr} {pins : List (Addr × Obj)} {s : Shared} {σ : St} {H : Hp} {Q : Value → Shared → Prop} {te : TE} (he : PE X e te) (I : Inv X pins σ H s)
    (h : te σ H fun x H1 => ∃ a C dx fs g, x = .ref a ∧ H1 a = some (.ins C dx fs) ∧ Cls X.K C ∧ Meth X.K C m g ∧ fs.lookup m = none ∧
      ∀ s1, Inv X pins σ H1 s1 → wpAny (model X.prog X.w) X.A (callWith pos (.ref g) [.ref a] (backTo pos (starEach args X.env)) (backToKw pos (keywordEach [] X.env))) Q X.xe s1)
    (ht : eval (.Call (.Attribute e m apos) args [] pos) X.env = (do
      let ov ← eval e X.env
      standAt apos.atName
      let (f, first) ← holding [ov] (getMethod ov m pl)
      callWith pos f first (backTo pos (starEach args X.env)) (backToKw pos (keywordEach [] X.env)))) :
    wpAny (model X.prog X.w) X.A (eval (.Call (.Attribute e m apos) args [] pos) X.env) Q X.xe s := by
  refine PySem.W.methodCall_KW (pl := pl) (thn (he pins s σ H _ I h) fun u s1 ⟨x, H1, I1, rx, a, C, dx, fs, g, ex, ea, c, k, l, q⟩ => ?_) ht
  subst ex
  obtain rfl : u = Value.ref a := rx
  exact getmeth_ok I1 ea c k l (q s1 I1)
end
/-! ### isinstance -/
end L2
namespace L2
open PySem PySem.Spec PyProof.Rows
/-! ### room -/
structure Room (k : Nat) (A : Around) : Prop where
  hd : A.handled = none
  dp : A.depth + 3 * k + 5 < recursionLimit
  un : A.units + 16 * k + 200 < cLine
theorem Room.mono {j k : Nat} {A : Around} (r : Room k A) (h : j ≤ k) : Room j A := ⟨r.hd, by have := r.dp; omega, by have := r.un; omega⟩
theorem Room.deeper {k : Nat} {A : Around} (r : Room (k + 1) A) (env : Env) : Room k (A.deeper env) :=
  ⟨r.hd, by have := r.dp; show A.depth + 1 + 3 * k + 5 < _; omega, by have := r.un; show A.units + 3 + 16 * k + 200 < _; omega⟩
theorem make_depth {A : Around} {C : Addr} {us : List Value} {kw : List (Str × Value)} : (A.under (.builtin "type.__call__" ⟨.ref C :: us, kw⟩)).depth = A.depth + 1 := by
  first | rfl | simp [Around.under, Code.weight, Code.isCreation, Code.isGuard, Code.isCaller, Code.frames, Code.isFrame, guardIds]
theorem make_units {A : Around} {C : Addr} {us : List Value} {kw : List (Str × Value)} : (A.under (.builtin "type.__call__" ⟨.ref C :: us, kw⟩)).units = A.units + 1 := by
  first | rfl | simp [Around.under, Code.cUnits, Code.frames, Code.isFrame]
theorem Room.make {k : Nat} {A : Around} (r : Room (k + 1) A) (C : Addr) (us : List Value) (kw : List (Str × Value)) : Room k (A.under (.builtin "type.__call__" ⟨.ref C :: us, kw⟩)) :=
  ⟨r.hd, by have := r.dp; rw [make_depth]; omega, by have := r.un; rw [make_units]; omega⟩
theorem Room.depth {k : Nat} {A : Around} (r : Room k A) : A.depth < recursionLimit := by have := r.dp; omega
/-! ### argument lists and displays -/
def tNil : TA := fun _ H Q => Q [] H
def tCons (ta : TE) (tr : TA) : TA := fun σ H Q => ta σ H fun x H1 => tr σ H1 fun xs H2 => Q (x :: xs) H2
section
variable {X : Cx} {e : Expr} {es : List Expr} {te : TE} {t : TA} {pos : Pos}
theorem pa_nil : PA X [] tNil := fun _ _ _ _ H Q I h => Calls.spliced_nil ⟨[], H, I, .nil, h⟩
theorem pa_cons (ha : PE X e te) (hr : PA X es t) (hs : starEach (e :: es) X.env = (false, eval e X.env) :: starEach es X.env := by rfl) : PA X (e :: es) (tCons te t) := by
  intro pos pins s σ H Q I h
  rw [hs]
  show wpAny _ _ (spliced ((false, eval e X.env) :: backTo pos (starEach es X.env))) _ _ s
  refine Calls.spliced_cons (thn (ha pins s σ H _ I h) fun u s1 ⟨x, H1, I1, r1, q1⟩ => ?_)
  exact thn (hr pos pins s1 σ H1 _ I1 q1) fun us s2 ⟨xs, H2, I2, r2, q2⟩ => ⟨x :: xs, H2, I2, .cons r1 r2, q2⟩
/-- a tuple, a list of written items -/
def tTup (t : TA) : TE := fun σ H Q => t σ H fun xs H1 => xs.length ≤ sizeLine ∧ ∀ p, H1 p = none → Q (.ref p) (upd H1 p (.tup xs))
def tLst (t : TA) : TE := fun σ H Q => t σ H fun xs H1 => xs.length ≤ sizeLine ∧ ∀ p, H1 p = none → Q (.ref p) (upd H1 p (.lst xs))
theorem pe_tup {x1} (h : PA X es t) : PE X (.Tuple es x1 pos) (tTup t) := by
  intro pins s σ H Q I hq
  refine wpAny_Tuple_spliced (thn (h pos pins s σ H _ I hq) fun us s1 ⟨xs, H1, I1, r, z, q⟩ => ⟨by rw [← r.length]; exact z, ?_⟩)
  have hf : H1 s1.heap.objs.size = none := I1.hok.fresh (Nat.le_refl _)
  refine ⟨.ref s1.heap.objs.size, upd H1 s1.heap.objs.size (.tup xs), I1.laid (t' := s1.toks) (fun b u e => Heap.get?_push_of_some _ e) (Nat.le_refl _) ?_, rfl, q _ hf⟩
  exact ⟨z, us, r, ⟨_, Heap.get?_push_size _ rfl, rfl, _, rfl⟩⟩
theorem pe_lst (h : PA X es t) : PE X (.List es pos) (tLst t) := by
  intro pins s σ H Q I hq
  refine wpAny_List_spliced (thn (h pos pins s σ H _ I hq) fun us s1 ⟨xs, H1, I1, r, z, q⟩ => ⟨by rw [← r.length]; exact z, ?_⟩)
  have hf : H1 s1.heap.objs.size = none := I1.hok.fresh (Nat.le_refl _)
  refine ⟨.ref s1.heap.objs.size, upd H1 s1.heap.objs.size (.lst xs), I1.laid (t' := s1.toks) (fun b u e => Heap.get?_push_of_some _ e) (Nat.le_refl _) ?_, rfl, q _ hf⟩
  exact ⟨z, us, 0, r, Heap.get?_push_size _ rfl⟩
end
/-! ### what a def promises -/
/-- a def's promise: the bound arguments in the parameters' order, the heap, the wanted end, the wanted exception -/
abbrev Sp := List V → Hp → VK → XK → Prop
/-- how an exception lies behind a call (file 08 gives it): the callers' frames, abstract heap and state ahead of the call, the wish, the exception, the state -/
abbrev CXT := List Env → Hp → Shared → XK → Value → Shared → Prop
/-- the state at a call -/
structure Env0 (P : Program) (w : World) (K : PySem.W.Frag) (mg : Str → Option Value) (base : Heap) (A : Around) (outer : List Env) (s : Shared) (H : Hp) : Prop where
  frames : A.frames = some outer
  mod : Mod K mg base
  bs : ∀ b o, base.get? b = some o → s.heap.get? b = some o ∧ H b = none
  bsz : base.objs.size ≤ s.heap.objs.size
  funs : s.heap.FunFrames base outer
  frf : ∀ b ∈ frs outer, H b = none
  hok : HOk P w H s.heap
  bare : AllBare s.gens
/-- a call's end -/
def CE (outer : List Env) (P : Program) (w : World) (H : Hp) (s : Shared) (Q : VK) (u : Value) (s' : Shared) : Prop :=
  ∃ v H', s'.os = s.os ∧ AllBare s'.gens ∧ Un (frs outer) [] H H' s.heap s'.heap ∧ HOk P w H' s'.heap ∧ RelV v u ∧ Q v H'
def CR (CX : CXT) (outer : List Env) (P : Program) (w : World) (H : Hp) (s : Shared) (Q : VK) (E : XK) (r : Result) (s' : Shared) : Prop :=
  match r with
  | .ok (.ret u) => CE outer P w H s Q u s'
  | .ok _ => False
  | .error e => CX outer H s E e s'
structure FnOk (P : Program) (w : World) (K : PySem.W.Frag) (mg : Str → Option Value) (base : Heap) (CX : CXT) (k : Nat) (f : Addr) (fd : FuncData) (ps : List Str) (sp : Sp) : Prop where
  len : ∀ vs H Q E, sp vs H Q E → vs.length = ps.length
  run : ∀ (A : Around) (outer : List Env) (s : Shared) (H : Hp) (args : Args) (us : List Value) (vs : List V) (Q : VK) (E : XK), Room k A → Env0 P w K mg base A outer s H → BindsTo s fd args (ps.zip us) → Vals vs us → sp vs H Q E →
    codeAny (model P w) A (.call (.ref f) args) (CR CX outer P w H s Q E) s
theorem FnOk.mono {P : Program} {w : World} {K : PySem.W.Frag} {mg : Str → Option Value} {base : Heap} {CX : CXT} {j k : Nat} {f : Addr} {fd : FuncData} {ps : List Str} {sp : Sp} (F : FnOk P w K mg base CX j f fd ps sp) (h : j ≤ k) :
    FnOk P w K mg base CX k f fd ps sp := ⟨F.len, fun A outer s H args us vs Q E hr => F.run A outer s H args us vs Q E (hr.mono h)⟩
theorem Env0.make {P : Program} {w : World} {K : PySem.W.Frag} {mg : Str → Option Value} {base : Heap} {A : Around} {outer : List Env} {s : Shared} {H : Hp} (e : Env0 P w K mg base A outer s H) (C : Addr) (us : List Value) (kw : List (Str × Value)) :
    Env0 P w K mg base (A.under (.builtin "type.__call__" ⟨.ref C :: us, kw⟩)) outer s H := ⟨by first | exact e.frames | (simpa [Around.under, Code.envs, Code.isFrame, pushEnvs] using e.frames), e.mod, e.bs, e.bsz, e.funs, e.frf, e.hok, e.bare⟩
section
variable {X : Cx} {pins : List (Addr × Obj)} {σ : St} {H : Hp} {s s' : Shared}
/-- from a body: what a callee wants -/
theorem Inv.env0 (I : Inv X pins σ H s) : Env0 X.prog X.w X.K X.mg X.base X.A X.stack s H :=
  ⟨I.ok.frames, I.ok.mod, I.bs, Nat.le_trans I.ok.bsz I.sz, I.stack, I.stkFree, I.hok, I.bare⟩
/-- behind a call -/
theorem Inv.after {Q : VK} {u : Value} (I : Inv X pins σ H s) (h : CE X.stack X.prog X.w H s Q u s') : EP X pins σ Q u s' := by
  obtain ⟨v, H', os, bare, un, hok, r, q⟩ := h
  obtain ⟨hh, g, d, t, os'⟩ := s'
  obtain rfl : os' = s.os := os
  exact ⟨v, H', I.call (h' := hh) (g' := g) (d' := d) (t' := t) (ch := []) un hok bare (fun b z => absurd z (by simp)), r, q⟩
end
/-! ### calls -/
/-- f(..): the written arguments, then the defaults dvs; E: what is wanted of an exception -/
def tCall (sp : Sp) (dvs : List V) (E : XK) (t : TA) : TE := fun σ H Q => t σ H fun vs H1 => sp (vs ++ dvs) H1 Q E
/-- o.m(..) of an instance of the class at C -/
def tMeth (C : Addr) (m : Str) (sp : Sp) (dvs : List V) (E : XK) (ta : TE) (t : TA) : TE := fun σ H Q => ta σ H fun x H1 => ∃ a dx fs, x = .ref a ∧ H1 a = some (.ins C dx fs) ∧ fs.lookup m = none ∧
  t σ H1 fun vs H2 => sp (x :: (vs ++ dvs)) H2 Q E
/-- C(..): a new instance and its dict, then __init__ -/
def tMake (C : Addr) (sp : Sp) (dvs : List V) (E : XK) (t : TA) : TE := fun σ H Q => t σ H fun vs H1 => ∀ x dx, H1 x = none → H1 dx = none → dx ≠ x →
  sp (.ref x :: (vs ++ dvs)) (upd (upd H1 dx (.own x)) x (.ins C dx [])) (fun v H2 => v = .non ∧ Q (.ref x) H2) E
/-- how the parameters are bound: us the positional arguments, kw the keywords' values by name, ds the defaults that fill up -/
def Binds (K : PySem.W.Frag) (fd : FuncData) (ps : List Str) (ds : List Value) : Prop :=
  ∀ (s : Shared) (us : List Value), K.In s.heap → (us ++ ds).length = ps.length → BindsTo s fd ⟨us, []⟩ (ps.zip (us ++ ds))
/-- every parameter is given -/
theorem Binds.all {K : PySem.W.Frag} {fd : FuncData} {ps : List Str} (h : ∀ us : List Value, us.length = ps.length → bindArgs fd ⟨us, []⟩ = pure (ps.zip us)) : Binds K fd ps [] := fun s us _ hl => by
  rw [List.append_nil] at hl ⊢
  exact .of_eq (h us hl)
/-- an exception of a callee reaches what this body wants of exceptions -/
def Passes (CX : CXT) (X : Cx) (E : XK) : Prop := ∀ (pins : List (Addr × Obj)) (σ : St) (H : Hp) (s : Shared) (e : Value) (s' : Shared), Inv X pins σ H s → CX X.stack H s E e s' → X.xe e s'
section
variable {X : Cx} {CX : CXT} {k : Nat} {f C : Addr} {fd : FuncData} {ps : List Str} {sp : Sp} {dvs : List V} {ds : List Value} {E : XK} {x m : Str} {p pos apos : Pos} {e o : Expr} {es : List Expr} {ta : TE} {t : TA}
/-- the callee runs -/
theorem run_fn {pins : List (Addr × Obj)} {σ : St} {H : Hp} {s : Shared} {Q : VK} {us : List Value} {vs : List V} (F : FnOk X.prog X.w X.K X.mg X.base CX k f fd ps sp) (hr : Room k X.A) (hb : Binds X.K fd ps ds) (hd : Vals dvs ds) (hx : Passes CX X E)
    (I : Inv X pins σ H s) (r : Vals vs us) (h : sp (vs ++ dvs) H Q E) : wpAny (model X.prog X.w) X.A (call (.ref f) us) (EP X pins σ Q) X.xe s := by
  have r2 : Vals (vs ++ dvs) (us ++ ds) := r.append hd
  have hl : (us ++ ds).length = ps.length := by rw [← r2.length]; exact F.len _ _ _ _ h
  refine wpAny_call (codeAny_mono (F.run X.A X.stack s H ⟨us, []⟩ (us ++ ds) (vs ++ dvs) Q E hr I.env0 (hb s us I.kIn hl) r2 h) fun r s' hq => ?_)
  cases r with
  | error e => exact hx pins σ H s e s' I hq
  | ok fl =>
    cases fl with
    | ret u => exact I.after hq
    | next => exact False.elim hq
    | brk => exact False.elim hq
    | cont => exact False.elim hq
theorem pe_call (F : FnOk X.prog X.w X.K X.mg X.base CX k f fd ps sp) (hr : Room k X.A) (hg : Gl X x) (hm : X.mg x = some (.ref f)) (hk : PySem.W.keepIn X.K (.ref f) = true) (hb : Binds X.K fd ps ds) (hd : Vals dvs ds) (hx : Passes CX X E)
    (ha : PA X (e :: es) t) (hdb : (x == ("__debug__" : Str)) = false := by decide) (he : starEach (e :: es) X.env = (false, eval e X.env) :: starEach es X.env := by rfl) (hpl : (backTo pos (starEach es X.env)).any (·.1) = false := by rfl) :
    PE X (.Call (.Name x p) (e :: es) [] pos) (tCall sp dvs E t) := by
  intro pins s σ H Q I h
  refine wpAny_Call_Name_kw (ld_glob I hg hm ?_ hdb)
  refine PySem.W.callWith_K (h₀ := X.base) I.ok.mod.kin hk (thn (ha pos pins s σ H _ I h) fun us s1 ⟨vs, H1, I1, r, q⟩ => ⟨I1.kIn, ?_⟩) he hpl
  exact run_fn F hr hb hd hx I1 r q
/-- o.m(e, ..) -/
theorem pe_meth {pl : Sem Bool} (he : PE X o ta) (c : Cls X.K C) (hm : Meth X.K C m f) (F : FnOk X.prog X.w X.K X.mg X.base CX k f fd ps sp) (hr : Room k X.A) (hb : Binds X.K fd ps ds) (hd : Vals dvs ds) (hx : Passes CX X E) (ha : PA X (e :: es) t)
    (hst : starEach (e :: es) X.env = (false, eval e X.env) :: starEach es X.env := by rfl) (hpl : (backTo pos (starEach es X.env)).any (·.1) = false := by rfl)
    (ht : eval (.Call (.Attribute o m apos) (e :: es) [] pos) X.env = (do
      let ov ← eval o X.env
      standAt apos.atName
      let (f, first) ← holding [ov] (getMethod ov m pl)
      callWith pos f first (backTo pos (starEach (e :: es) X.env)) (backToKw pos (keywordEach [] X.env))) := by rfl) :
    PE X (.Call (.Attribute o m apos) (e :: es) [] pos) (tMeth C m sp dvs E ta t) := by
  intro pins s σ H Q I h
  refine PySem.W.methodCall_KW (pl := pl) (thn (he pins s σ H _ I h) fun u s1 ⟨x, H1, I1, rx, a, dx, fs, ex, ea, l, q⟩ => ?_) ht
  subst ex
  obtain rfl : u = Value.ref a := rx
  refine getmeth_ok I1 ea c hm l ?_
  refine PySem.W.callWith_K (first := [.ref a]) (h₀ := X.base) I.ok.mod.kin hm.kp (thn (ha pos pins s1 σ H1 _ I1 q) fun us s2 ⟨vs, H2, I2, r, q2⟩ => ⟨I2.kIn, ?_⟩) hst hpl
  exact run_fn (us := .ref a :: us) (vs := .ref a :: vs) F hr hb hd hx I2 (.cons rfl r) q2
/-- o.m() -/
theorem pe_meth0 {pl : Sem Bool} (he : PE X o ta) (c : Cls X.K C) (hm : Meth X.K C m f) (F : FnOk X.prog X.w X.K X.mg X.base CX k f fd ps sp) (hr : Room k X.A) (hb : Binds X.K fd ps ds) (hd : Vals dvs ds) (hx : Passes CX X E)
    (ht : eval (.Call (.Attribute o m apos) [] [] pos) X.env = (do
      let ov ← eval o X.env
      standAt apos.atName
      let (f, first) ← holding [ov] (getMethod ov m pl)
      callWith pos f first (backTo pos (starEach [] X.env)) (backToKw pos (keywordEach [] X.env))) := by rfl) :
    PE X (.Call (.Attribute o m apos) [] [] pos) (tMeth C m sp dvs E ta tNil) := by
  intro pins s σ H Q I h
  refine PySem.W.methodCall_KW (pl := pl) (thn (he pins s σ H _ I h) fun u s1 ⟨x, H1, I1, rx, a, dx, fs, ex, ea, l, q⟩ => ?_) ht
  subst ex
  obtain rfl : u = Value.ref a := rx
  refine getmeth_ok I1 ea c hm l ?_
  exact PySem.W.callWith_K0 (first := [.ref a]) I1.kIn hm.kp (run_fn (us := [.ref a]) (vs := [.ref a]) F hr hb hd hx I1 (.cons rfl .nil) q)
/-- what a class must have to be made -/
structure Mk (K : PySem.W.Frag) (C f : Addr) : Prop where
  makes : PySem.W.makesIn K C = true
  init : PySem.W.findIn K (.ref C) "__init__" = some (some (.ref f))
  fn : PySem.W.isFn K (.ref f) = true
  kp : PySem.W.keepIn K (.ref C) = true
theorem run_make {pins : List (Addr × Obj)} {σ : St} {H : Hp} {s : Shared} {Q : VK} {us : List Value} {vs : List V} (M : Mk X.K C f) (F : FnOk X.prog X.w X.K X.mg X.base CX k f fd ps sp) (hr : Room (k + 1) X.A) (hb : Binds X.K fd ps ds) (hd : Vals dvs ds)
    (hx : Passes CX X E) (I : Inv X pins σ H s) (r : Vals vs us)
    (h : ∀ x dx, H x = none → H dx = none → dx ≠ x → sp (.ref x :: (vs ++ dvs)) (upd (upd H dx (.own x)) x (.ins C dx [])) (fun v H2 => v = .non ∧ Q (.ref x) H2) E) :
    wpAny (model X.prog X.w) X.A (call (.ref C) us) (EP X pins σ Q) X.xe s := by
  have hq := h (s.heap.objs.size + 1) s.heap.objs.size (I.hok.fresh (Nat.le_succ _)) (I.hok.fresh (Nat.le_refl _)) (Nat.ne_of_lt (Nat.lt_succ_self _))
  have I2 := Inv.made (C := C) I
  have r2 : Vals (V.ref (s.heap.objs.size + 1) :: (vs ++ dvs)) (Value.ref (s.heap.objs.size + 1) :: (us ++ ds)) := .cons rfl (r.append hd)
  have hl : (Value.ref (s.heap.objs.size + 1) :: us ++ ds).length = ps.length := by
    have e := r2.length
    rw [F.len _ _ _ _ hq] at e
    exact e.symm
  refine wpAny_call (make_map (f := f) I.kIn M.makes M.init (beq_iff_eq.mp M.fn) (codeAny_mono (F.run _ X.stack _ _ ⟨Value.ref (s.heap.objs.size + 1) :: us, []⟩ (Value.ref (s.heap.objs.size + 1) :: (us ++ ds)) _ _ E (hr.make C us [])
    (I2.env0.make C us []) (hb _ (Value.ref (s.heap.objs.size + 1) :: us) I2.kIn hl) r2 hq) fun r s' hq' => ?_))
  cases r with
  | error e => exact hx pins σ _ _ e s' I2 hq'
  | ok fl =>
    cases fl with
    | ret u =>
      obtain ⟨v, H', I3, rv, ev, q3⟩ := I2.after hq'
      subst ev
      exact ⟨rv, ⟨V.ref (s.heap.objs.size + 1), H', I3, rfl, q3⟩⟩
    | next => exact False.elim hq'
    | brk => exact False.elim hq'
    | cont => exact False.elim hq'
theorem pe_make (M : Mk X.K C f) (F : FnOk X.prog X.w X.K X.mg X.base CX k f fd ps sp) (hr : Room (k + 1) X.A) (hg : Gl X x) (hm : X.mg x = some (.ref C)) (hb : Binds X.K fd ps ds) (hd : Vals dvs ds) (hx : Passes CX X E)
    (ha : PA X (e :: es) t) (hdb : (x == ("__debug__" : Str)) = false := by decide) (he : starEach (e :: es) X.env = (false, eval e X.env) :: starEach es X.env := by rfl) (hpl : (backTo pos (starEach es X.env)).any (·.1) = false := by rfl) :
    PE X (.Call (.Name x p) (e :: es) [] pos) (tMake C sp dvs E t) := by
  intro pins s σ H Q I h
  refine wpAny_Call_Name_kw (ld_glob I hg hm ?_ hdb)
  refine PySem.W.callWith_K (h₀ := X.base) I.ok.mod.kin M.kp (thn (ha pos pins s σ H _ I h) fun us s1 ⟨vs, H1, I1, r, q⟩ => ⟨I1.kIn, ?_⟩) he hpl
  exact run_make M F hr hb hd hx I1 r q
theorem pe_make0 (M : Mk X.K C f) (F : FnOk X.prog X.w X.K X.mg X.base CX k f fd ps sp) (hr : Room (k + 1) X.A) (hg : Gl X x) (hm : X.mg x = some (.ref C)) (hb : Binds X.K fd ps ds) (hd : Vals dvs ds) (hx : Passes CX X E)
    (hdb : (x == ("__debug__" : Str)) = false := by decide) : PE X (.Call (.Name x p) [] [] pos) (tMake C sp dvs E tNil) := by
  intro pins s σ H Q I h
  refine wpAny_Call_Name_kw (ld_glob I hg hm ?_ hdb)
  exact PySem.W.callWith_K0 I.kIn M.kp (run_make (us := []) M F hr hb hd hx I .nil h)
end
/-! ### keywords -/
/-! ### a def's body keeps its promise -/
/-- names: the parameters first -/
structure FnScope (N P : List Str) (sc : Scope) : Prop where
  kind : sc.kind = .function
  co : sc.isCoroutine = false
  gen : sc.isGenerator = false
  nd : N.Nodup
  pre : N.take P.length = P
  par : ∀ x ∈ P, sc.names.lookup x = some .local ∨ sc.names.lookup x = some .cell
  nofree : ∀ y ∈ sc.names, y.2 ≠ .free
theorem bindL_out {kindOf : Str → Option NameKind} {x : Str} : ∀ {binds : List (Str × Value)} {m : Str → Option Value}, (∀ v, (x, v) ∉ binds) → bindL kindOf binds m x = m x
  | [], _, _ => rfl
  | (n, v) :: r, m, h => by
    unfold bindL
    rw [bindL_out fun w hw => h w (List.mem_cons_of_mem _ hw)]
    split
    · have : x ≠ n := by rintro rfl; exact h v List.mem_cons_self
      simp [this]
    · rfl
theorem bindC_out {kindOf : Str → Option NameKind} {x : Str} : ∀ {binds : List (Str × Value)} {m : Str → Option Value}, (∀ v, (x, v) ∉ binds) → bindC kindOf binds m x = m x
  | [], _, _ => rfl
  | (n, v) :: r, m, h => by
    unfold bindC
    rw [bindC_out fun w hw => h w (List.mem_cons_of_mem _ hw)]
    split
    · rfl
    · have : x ≠ n := by rintro rfl; exact h v List.mem_cons_self
      simp [this]
theorem bindL_get {kindOf : Str → Option NameKind} {x : Str} {v : Value} : ∀ {P : List Str} {vs : List Value} {i : Nat} {m : Str → Option Value}, P.Nodup → P[i]? = some x → vs[i]? = some v → kindOf x = some .local →
    bindL kindOf (P.zip vs) m x = some v
  | [], _, _, _, _, h, _, _ => by simp at h
  | _ :: _, [], _, _, _, _, h, _ => by simp at h
  | p :: P, w :: vs, 0, m, nd, h1, h2, hk => by
    simp at h1 h2; subst h1; subst h2
    show bindL kindOf ((p, w) :: P.zip vs) m p = _
    unfold bindL
    rw [bindL_out fun v hv => (List.nodup_cons.mp nd).1 (List.of_mem_zip hv).1, if_pos hk]
    simp
  | p :: P, w :: vs, i + 1, m, nd, h1, h2, hk => by
    show bindL kindOf ((p, w) :: P.zip vs) m x = _
    unfold bindL
    exact bindL_get (i := i) (List.nodup_cons.mp nd).2 (by simpa using h1) (by simpa using h2) hk
theorem bindC_get {kindOf : Str → Option NameKind} {x : Str} {v : Value} : ∀ {P : List Str} {vs : List Value} {i : Nat} {m : Str → Option Value}, P.Nodup → P[i]? = some x → vs[i]? = some v → kindOf x ≠ some .local →
    bindC kindOf (P.zip vs) m x = some v
  | [], _, _, _, _, h, _, _ => by simp at h
  | _ :: _, [], _, _, _, _, h, _ => by simp at h
  | p :: P, w :: vs, 0, m, nd, h1, h2, hk => by
    simp at h1 h2; subst h1; subst h2
    show bindC kindOf ((p, w) :: P.zip vs) m p = _
    unfold bindC
    rw [bindC_out fun v hv => (List.nodup_cons.mp nd).1 (List.of_mem_zip hv).1, if_neg hk]
    simp
  | p :: P, w :: vs, i + 1, m, nd, h1, h2, hk => by
    show bindC kindOf ((p, w) :: P.zip vs) m x = _
    unfold bindC
    exact bindC_get (i := i) (List.nodup_cons.mp nd).2 (by simpa using h1) (by simpa using h2) hk
/-- the names' values at the entry -/
def start (N : List Str) (vs : List V) : St := vs.map some ++ List.replicate (N.length - vs.length) none
/-- the context of a def's body, at its entry; an exception leaves the frame, then lies as CX says -/
def cxOf (CX : CXT) (P : Program) (w : World) (K : PySem.W.Frag) (mg : Str → Option Value) (base : Heap) (N : List Str) (qual : Str) (scope : Scope) (f : Addr) (cd : Value) (A : Around) (outer : List Env) (s : Shared) (H : Hp) (E : XK) : Cx where
  prog := P
  w := w
  K := K
  mg := mg
  base := base
  A := A.deeper (envOfC qual scope s.heap.objs.size f cd)
  N := N
  s_0 := s
  H_0 := H
  env := envOfC qual scope s.heap.objs.size f cd
  outer := outer
  stack := envOfC qual scope s.heap.objs.size f cd :: outer
  ex := []
  calm := true
  fn := fun _ => true
  pn := []
  xe := fun e s' => wpAny (model P w) (A.deeper (envOfC qual scope s.heap.objs.size f cd)) (leaving (envOfC qual scope s.heap.objs.size f cd) e) (fun _ s'' => CX outer H s E e s'') (fun e' s'' => CX outer H s E e' s'') s'
theorem cell_has {sc : Scope} {n : Nat} {x : Str} (h : sc.names.lookup x = some .cell) : ∃ c, (cellsFrom n sc.names []).lookup x = some c := by
  have q := PySem.W.cellsFrom_some sc.names n [] (.inl h)
  exact Option.isSome_iff_exists.mp q
theorem inv_start {CX : CXT} {P : Program} {w : World} {K : PySem.W.Frag} {mg : Str → Option Value} {base : Heap} {N ps : List Str} {qual : Str} {scope : Scope} {f : Addr} {cd : Value} {A : Around} {outer : List Env} {s s1 : Shared} {H : Hp} {E : XK} {us : List Value} {vs : List V}
    (S : FnScope N ps scope) (hd : A.handled = none) (e0 : Env0 P w K mg base A outer s H) (hl : vs.length = ps.length) (r : Vals vs us)
    (x : InCallC s s.heap.objs.size (bindL (envOfC qual scope s.heap.objs.size f cd).kindOf (ps.zip us) fun _ => none) (cellsFrom (s.heap.objs.size + 1) scope.names []) (bindC (envOfC qual scope s.heap.objs.size f cd).kindOf (ps.zip us) fun _ => none) s1) :
    Inv (cxOf CX P w K mg base N qual scope f cd A outer s H E) [] (start N vs) H s1 := by
  have hpl : ps.length ≤ N.length := by have := congrArg List.length S.pre; rw [List.length_take] at this; omega
  obtain ⟨h1, tk, rfl, hk⟩ := x.done
  have noA : ∀ b : Addr, b ∉ (cxOf CX P w K mg base N qual scope f cd A outer s H E).ex := fun b z => absurd (show b ∈ ([] : List Addr) from z) (by simp)
  refine ⟨⟨e0.mod, S.kind, rfl, rfl, Nat.le_refl _, fun y z c h1 h2 => ?_, fun y hy => ?_, fun y c _ h => ?_, fun _ => hd, Around.frames_deeper e0.frames, .inr ⟨rfl, rfl⟩, fun b z => absurd z (noA b), e0.bs, e0.bsz, fun b _ _ => noA b, fun b z => absurd z (noA b), e0.funs, e0.frf⟩,
    rfl, e0.bare, Un.kept hk, ⟨_, x.toInCall.ns, fun i y v h1 h2 h3 => ?_⟩, fun y c h => ⟨_, x.cell y c h⟩, e0.hok.fresh (Nat.le_refl _), fun y c h => ?_, fun p hp => absurd (show p ∈ ([] : List (Addr × Obj)) from hp) (by simp), e0.hok.kept hk, ?_⟩
  · exact name_of_addr x.apart (PySem.mem_of_lookup h1) (PySem.mem_of_lookup h2)
  · have hy : scope.names.lookup y = some .cell ∨ scope.names.lookup y = some .free := hy
    rcases hy with hy | hy
    · exact cell_has hy
    · exact absurd rfl (S.nofree _ (PySem.mem_of_lookup hy))
  · exact Nat.le_of_lt (x.above y c (PySem.mem_of_lookup h))
  · have hi : i < vs.length := by
      unfold start at h2
      by_cases hi : i < vs.length
      · exact hi
      · rw [List.getElem?_append_right (by simpa using hi)] at h2
        rw [List.getElem?_replicate] at h2
        split at h2 <;> cases h2
    have ha : vs[i]? = some v := by
      unfold start at h2
      rw [List.getElem?_append_left (by simpa using hi), List.getElem?_map] at h2
      cases e : vs[i]? with
      | none => rw [e] at h2; cases h2
      | some a => rw [e] at h2; cases h2; rfl
    obtain ⟨u, hu, rv⟩ := r.get ha
    have hp : ps[i]? = some y := by
      rw [← S.pre, List.getElem?_take_of_lt (by omega)]; exact h1
    have ndP : ps.Nodup := by rw [← S.pre]; exact S.nd.sublist (List.take_sublist _ _)
    refine ⟨u, rv, ?_⟩
    rcases S.par y (List.mem_of_getElem? hp) with k | k
    · exact .inl ⟨k, bindL_get ndP hp hu k⟩
    · obtain ⟨c, e⟩ := cell_has (n := s.heap.objs.size + 1) k
      refine .inr ⟨.inl k, c, e, ?_⟩
      have q := x.cell y c e
      rw [bindC_get ndP hp hu (by show scope.names.lookup y ≠ _; rw [k]; decide)] at q
      exact q
  · exact e0.hok.fresh (Nat.le_of_lt (x.above y c (PySem.mem_of_lookup h)))
  · unfold start
    show _ = N.length
    rw [List.length_append, List.length_map, List.length_replicate]
    omega
/-- THE RULE: a def (or a method) of the text, by its body. The body's reading t is chosen for each entry; it is run at the parameters' values -/
theorem fn_of {CX : CXT} {P : Program} {w : World} {K : PySem.W.Frag} {mg : Str → Option Value} {base : Heap} {k : Nat} {f : Addr} {name qual : Str} {params : Arguments} {body : List Stmt} {scope : Scope} {dV kV doc pm cdv ct oc : Value} {an od : Option Addr}
    {osl : Array (Option Value)} {N ps : List Str} {sp : Sp} (lk : K.lookup f = some ⟨oc, od, .func (PySem.W.fnOf name qual params body scope dV kV doc pm an cdv ct), osl⟩) (hcd : PySem.W.codeIn K cdv qual = true) (S : FnScope N ps scope)
    (len : ∀ vs H Q E, sp vs H Q E → vs.length = ps.length)
    (hbody : ∀ (A : Around) (outer : List Env) (s : Shared) (H : Hp) (vs : List V) (Q : VK) (E : XK), Room k (A.deeper (envOfC qual scope s.heap.objs.size f cdv)) → sp vs H Q E →
      ∃ t, PSs (cxOf CX P w K mg base N qual scope f cdv A outer s H E) body t ∧ t { nx := fun _ H' => Q .non H', rt := Q } (start N vs) H) :
    FnOk P w K mg base CX (k + 1) f (PySem.W.fnOf name qual params body scope dV kV doc pm an cdv ct) ps sp := by
  refine ⟨len, fun A outer s H args us vs Q E hr e0 hb r hsp => ?_⟩
  have hl := len _ _ _ _ hsp
  have KX : K.In s.heap := e0.mod.kin.keeps fun b o e => (e0.bs b o e).1
  have lim : s.heap.NoLimit := e0.mod.nolimit.keeps fun b o e => (e0.bs b o e).1
  have hkind : ∀ y ∈ ps.zip us, scope.names.lookup y.1 = some .local ∨ (scope.names.lookup y.1 = some .cell ∧ ((cellsFrom (s.heap.objs.size + 1) scope.names []).lookup y.1).isSome = true) := fun ⟨n, v⟩ hy => by
    rcases S.par n (List.of_mem_zip hy).1 with q | q
    · exact .inl q
    · exact .inr ⟨q, PySem.W.cellsFrom_some _ _ _ (.inl q)⟩
  refine codeAny_call_function hr.depth (KX _ _ lk) rfl S.co S.gen rfl (PySem.W.codeRec_of KX hcd) (hb _ _ _ _ ?_)
  refine wpAny_newFunctionEnv_cells S.kind hkind fun env he s1 x => ?_
  subst he
  refine ⟨lim.keeps x.toInCall.keep, codeAny_func ?_⟩
  obtain ⟨t, ht, hq⟩ := hbody A outer s H vs Q E (hr.deeper _) hsp
  have I : Inv (cxOf CX P w K mg base N qual scope f cdv A outer s H E) [] (start N vs) H s1 := inv_start S hr.hd e0 hl r x
  refine wpAny_mono (ht [] s1 (start N vs) H _ I hq) (fun fl s' hs => ?_) fun e s' hs => hs
  have fin : ∀ {σ' : St} {H' : Hp} {v : V} {u : Value}, Inv (cxOf CX P w K mg base N qual scope f cdv A outer s H E) [] σ' H' s' → RelV v u → Q v H' → CE outer P w H s Q u s' :=
    fun {σ' H' v u} J rv q => ⟨v, H', J.os, J.bare, J.base, J.hok, rv, q⟩
  cases fl with
  | ret u =>
    obtain ⟨v, σ', H', J, rv, q⟩ := hs
    exact fin J rv q
  | next =>
    obtain ⟨σ', H', J, q⟩ := hs
    exact fin (v := V.non) (u := Value.none) J rfl q
  | brk =>
    obtain ⟨_, _, _, q⟩ := hs
    exact False.elim q
  | cont =>
    obtain ⟨_, _, _, q⟩ := hs
    exact False.elim q
end L2
namespace L2
open PySem PySem.Spec PyProof.Rows
section
variable {X : Cx} {x : Str} {p pos : Pos} {e : Expr} {es : List Expr} {t : TA} {id T : String} {r : List V → Hp → VK → Prop}
def tCB (r : List V → Hp → VK → Prop) (t : TA) : TE := fun σ H Q => t σ H fun vs H1 => r vs H1 Q
/-- f(e, ..), f a built-in function -/
theorem pe_callB (hc : CallR X (.builtin id) r) (hg : Gl X x) (hm : X.mg x = none) (hv : bootBuiltins x = some (.builtin id)) (ha : PA X (e :: es) t) (hn : x ≠ "__name__" := by decide) (hdb : (x == ("__debug__" : Str)) = false := by decide)
    (he : starEach (e :: es) X.env = (false, eval e X.env) :: starEach es X.env := by rfl) (hpl : (backTo pos (starEach es X.env)).any (·.1) = false := by rfl) : PE X (.Call (.Name x p) (e :: es) [] pos) (tCB r t) := by
  intro pins s σ H Q I h
  refine wpAny_Call_Name_kw (ld_blt I hg hm hv ?_ hn hdb)
  exact PyProof.Rows.callWith_builtin1 (thn (ha pos pins s σ H _ I h) fun us s1 ⟨vs, H1, I1, r1, q1⟩ => hc pins s1 σ H1 vs us Q I1 r1 q1) he hpl
/-- T(e, ..), T a built-in type -/
theorem pe_callTy (hc : CallR X (.type T) r) (hg : Gl X x) (hm : X.mg x = none) (hv : bootBuiltins x = some (.type T)) (ha : PA X (e :: es) t) (hn : x ≠ "__name__" := by decide) (hdb : (x == ("__debug__" : Str)) = false := by decide)
    (he : starEach (e :: es) X.env = (false, eval e X.env) :: starEach es X.env := by rfl) (hpl : (backTo pos (starEach es X.env)).any (·.1) = false := by rfl) : PE X (.Call (.Name x p) (e :: es) [] pos) (tCB r t) := by
  intro pins s σ H Q I h
  refine wpAny_Call_Name_kw (ld_blt I hg hm hv ?_ hn hdb)
  exact PyProof.Rows.callWith_type1 (thn (ha pos pins s σ H _ I h) fun us s1 ⟨vs, H1, I1, r1, q1⟩ => hc pins s1 σ H1 vs us Q I1 r1 q1) he hpl
end
end L2
namespace HT
open PySem PyProof.Rows
section
open PySem.SeqAt
open PySem.AutoSeq1 (wpAny_loadPart')
open PySem.MeetsSeq PySem.MeetsSeq2 PySem.MeetsSeq3
end
section
variable {prog : Program} {w : World} {A : Around} {E : Value → Shared → Prop} {s : Shared}
/-! ### t[a:b], not the whole -/
/-- a slice's bound as a place among n (d where it is left out) -/
def sIx (n d : Nat) : Option Int → Nat
  | none => d
  | some v => if v < 0 then (v + (n : Int)).toNat else min v.toNat n
theorem sIx_nat (n d k : Nat) : sIx n d (some (k : Int)) = min k n := by
  show (if (k : Int) < 0 then ((k : Int) + (n : Int)).toNat else min (k : Int).toNat n) = min k n
  rw [if_neg (by omega), Int.toNat_natCast]
end
end HT
namespace L2
open PySem PySem.Spec PyProof.Rows
/-! ### the parts of a slice -/
abbrev TO := St → Hp → (Option Int → Hp → Prop) → Prop
/-- a slice's part (left out, or an int) -/
def PO (X : Cx) (e : Option Expr) (t : TO) : Prop :=
  ∀ (pins : List (Addr × Obj)) (s : Shared) (σ : St) (H : Hp) (Q : Option Int → Hp → Prop), Inv X pins σ H s → t σ H Q →
    wpAny (model X.prog X.w) X.A (evalPart e X.env) (fun u s' => ∃ o H', Inv X pins σ H' s' ∧ IsPart u o ∧ Q o H') X.xe s
def tNoPart : TO := fun _ H Q => Q none H
def tPart (t : TE) : TO := fun σ H Q => t σ H fun x H1 => ∃ i, x = .int i ∧ Q (some i) H1
section
variable {X : Cx} {e : Expr} {te : TE} {lo hi : Option Expr} {tl th : TO} {pos p2 : Pos}
theorem po_none : PO X none tNoPart := by
  intro pins s σ H Q I h
  rw [evalPart_none]
  exact wpAny_pure ⟨none, H, I, .none, h⟩
theorem po_some (h : PE X e te) : PO X (some e) (tPart te) := by
  intro pins s σ H Q I hw
  rw [evalPart_some]
  refine thn (h pins s σ H _ I hw) fun u s1 ⟨x, H1, I1, r1, q1⟩ => ?_
  obtain ⟨i, rfl, q⟩ := q1
  obtain ⟨t, rfl⟩ := r1
  exact ⟨some i, H1, I1, .int i t, q⟩
/-- what a slice of a value is, by values: the slice object stands at sl -/
def SlR (X : Cx) (r : V → Option Int → Option Int → Hp → VK → Prop) : Prop :=
  ∀ (pins : List (Addr × Obj)) (s : Shared) (σ : St) (H : Hp) (x : V) (v vl vu : Value) (lo hi : Option Int) (sl : Addr) (Q : VK), Inv X pins σ H s → RelV x v → s.heap.IsSliceOf sl vl vu .none → IsPart vl lo → IsPart vu hi → r x lo hi H Q →
    ∃ T id, typeLookup (.type T) "__getitem__" = pure (some (.builtin id)) ∧ s.TypeIs v T ∧ wpAny (model X.prog X.w) X.A (getItem v (.ref sl)) (EP X pins σ Q) X.xe s
def tSl (r : V → Option Int → Option Int → Hp → VK → Prop) (te : TE) (tl th : TO) : TE := fun σ H Q => te σ H fun x H1 => tl σ H1 fun l H2 => th σ H2 fun u H3 => r x l u H3 Q
/-- a[lo:hi], any a -/
theorem pe_slice {r : V → Option Int → Option Int → Hp → VK → Prop} (hr : SlR X r) (he : PE X e te) (hl : PO X lo tl) (hu : PO X hi th) : PE X (.Subscript e (.Slice lo hi none p2) pos) (tSl r te tl th) := by
  intro pins s σ H Q I h
  refine Subscript_ (thn (he pins s σ H _ I h) fun v s1 ⟨x, H1, I1, r1, q1⟩ => ?_)
  refine wpAny_Slice (thn (hl pins s1 σ H1 _ I1 q1) fun vl s2 ⟨l, H2, I2, pl, q2⟩ => thn (hu pins s2 σ H2 _ I2 q2) fun vu s3 ⟨u, H3, I3, pu, q3⟩ => ?_)
  rw [evalPart_none]
  refine wpAny_pure ?_
  have I4 : Inv X pins σ H3 { s3 with heap := s3.heap.push { cls := .type "slice", data := .fields #[vl, vu, .none] } } := I3.kept (t' := s3.toks) fun b ob q => Heap.get?_push_of_some _ q
  obtain ⟨T, id, hT, ht, hg⟩ := hr pins { s3 with heap := s3.heap.push { cls := .type "slice", data := .fields #[vl, vu, .none] } } σ H3 x v vl vu l u s3.heap.objs.size Q I4 r1 (Heap.IsSliceOf.new ..) pl pu q3
  show wpAny (model X.prog X.w) X.A (subscriptTail e (.Slice lo hi none p2) v (.ref s3.heap.objs.size)) (EP X pins σ Q) X.xe { s3 with heap := s3.heap.push { cls := .type "slice", data := .fields #[vl, vu, .none] } }
  exact tail_any (ops := [.ref s3.heap.objs.size, v]) ht hT hg (by with_unfolding_all rfl)
/-- the items of xs[lo:hi] -/
def cutV (xs : List V) (lo hi : Option Int) : List V := (xs.drop (HT.sIx xs.length 0 lo)).take (HT.sIx xs.length xs.length hi - HT.sIx xs.length 0 lo)
theorem cutV_length (xs : List V) (lo hi : Option Int) : (cutV xs lo hi).length ≤ xs.length := by
  unfold cutV
  rw [List.length_take, List.length_drop]
  omega
/-! ### t < u, t + u -/
end
end L2
namespace L2
open PySem PySem.Spec PyProof.Rows
/-! ### places -/
/-- the place that an index of any sign means -/
def ixN (n : Nat) (i : Int) : Option Nat := if 0 ≤ i then (if i < n then some i.toNat else none) else if -(n : Int) ≤ i then some (i + n).toNat else none
def atI {α : Type} (xs : List α) (i : Int) : Option α := (ixN xs.length i).bind fun j => xs[j]?
theorem ixN_seq {n : Nat} {i : Int} {j : Nat} (h : ixN n i = some j) : seqIndex? i n = some j ∧ j < n ∧ -(n : Int) ≤ i ∧ i < n := by
  unfold ixN at h
  by_cases h0 : 0 ≤ i
  · rw [if_pos h0] at h
    by_cases h1 : i < n
    · rw [if_pos h1] at h
      have e : i.toNat = j := Option.some.inj h
      exact ⟨by rw [seqIndex_of h0 h1, e], by omega, by omega, h1⟩
    · rw [if_neg h1] at h; cases h
  · rw [if_neg h0] at h
    by_cases h1 : -(n : Int) ≤ i
    · rw [if_pos h1] at h
      have e : (i + n).toNat = j := Option.some.inj h
      exact ⟨by rw [seqIndex_neg (by omega) h1, e], by omega, h1, by omega⟩
    · rw [if_neg h1] at h; cases h
theorem atI_get {α : Type} {xs : List α} {i : Int} {v : α} (h : atI xs i = some v) : ∃ j, seqIndex? i xs.length = some j ∧ xs[j]? = some v ∧ j < xs.length ∧ -(xs.length : Int) ≤ i ∧ i < xs.length := by
  unfold atI at h
  cases e : ixN xs.length i with
  | none => rw [e] at h; cases h
  | some j =>
    rw [e] at h
    obtain ⟨h1, h2, h3, h4⟩ := ixN_seq e
    exact ⟨j, h1, h, h2, h3, h4⟩
theorem atI_nat {α : Type} {xs : List α} {j : Nat} {v : α} (h : xs[j]? = some v) : atI xs (j : Int) = some v := by
  have hj : j < xs.length := (List.getElem?_eq_some_iff.mp h).1
  have e : ixN xs.length (j : Int) = some j := by
    unfold ixN
    rw [if_pos (by omega), if_pos (by omega)]; simp
  unfold atI; rw [e]; exact h
/-! ### what may be subscripted -/
/-- what stands as an index of a plain subscript -/
def PlainIx (b : Expr) : Prop := ∀ o i, subscripted b false o i = operate [o, i] (getItem o i)
/-- a subscript by values -/
def IxR (X : Cx) (r : R2) : Prop :=
  ∀ (value slice : Expr) (pins : List (Addr × Obj)) (s : Shared) (σ : St) (H : Hp) (x y : V) (v u : Value) (Q : VK), Inv X pins σ H s → RelV x v → RelV y u → r x y H Q →
    subscripted slice false v u = operate [v, u] (getItem v u) → wpAny (model X.prog X.w) X.A (subscriptTail value slice v u) (EP X pins σ Q) X.xe s
/-- a call of a builtin's method by values: the receiver, the arguments -/
def MtR (X : Cx) (id : String) (r : V → List V → Hp → VK → Prop) : Prop :=
  ∀ (pins : List (Addr × Obj)) (s : Shared) (σ : St) (H : Hp) (x : V) (xs : List V) (v : Value) (us : List Value) (Q : VK), Inv X pins σ H s → RelV x v → Vals xs us → r x xs H Q →
    wpAny (model X.prog X.w) X.A (call (.builtin id) (v :: us)) (EP X pins σ Q) X.xe s
section
variable {X : Cx} {a b : Expr} {ta tb : TE} {pos : Pos}
/-- a[b] -/
theorem pe_ix {r : R2} (hr : IxR X r) (ha : PE X a ta) (hb : PE X b tb) (hs : PlainIx b) : PE X (.Subscript a b pos) (tOp r ta tb) := by
  intro pins s σ H Q I h
  exact Subscript_ (binT ha hb I h fun v u s2 x y H2 I2 rx ry q => hr a b pins s2 σ H2 x y v u Q I2 rx ry q (hs _ _))
def rIxL (K : PySem.W.Frag) : R2 := fun x y H Q => ∃ p xs i v, x = .ref p ∧ y = .int i ∧ SqL K H p xs ∧ atI xs i = some v ∧ Q v H
def rIxT (K : PySem.W.Frag) : R2 := fun x y H Q => ∃ p xs i v, x = .ref p ∧ y = .int i ∧ SqT K H p xs ∧ atI xs i = some v ∧ Q v H
theorem ix_list : IxR X (rIxL X.K) := by
  intro value slice pins s σ H x y v u Q I rx ry h hs
  obtain ⟨p, xs, i, z, rfl, rfl, hq, he, q⟩ := h
  cases rx
  obtain ⟨t, rfl⟩ := ry
  obtain ⟨its, r, pl, hz⟩ := I.list hq
  obtain ⟨j, h1, h2, h3, h4, h5⟩ := atI_get he
  obtain ⟨w, ew, rw'⟩ := r.get h2
  have hl := r.length
  have hn := line63
  have fin : EP X pins σ Q w s := ⟨z, H, I, rw', q⟩
  by_cases h0 : 0 ≤ i
  · have hj : i.toNat = j := by
      rw [seqIndex_of h0 h5] at h1
      exact Option.some.inj h1
    exact item_listR pl.isList h0 (by omega) (by rw [hj]; simpa using ew) fin hs
  · have hj : (i + (its.toArray.size : Int)).toNat = j := by
      rw [seqIndex_neg (by omega) h4] at h1
      rw [List.size_toArray, ← hl]
      exact Option.some.inj h1
    exact subscriptTail_builtinR (x := w) pl.isList.typeIs slot_list_getitem.lookup
      (wpAny_getItem_list_neg (Q := fun r s' => r = w ∧ EP X pins σ Q r s') pl.isList (by omega) (by rw [List.size_toArray] <;> omega) (by omega) (by rw [hj]; simpa using ew) ⟨rfl, fin⟩) hs
theorem ix_tup : IxR X (rIxT X.K) := by
  intro value slice pins s σ H x y v u Q I rx ry h hs
  obtain ⟨p, xs, i, z, rfl, rfl, hq, he, q⟩ := h
  cases rx
  obtain ⟨t, rfl⟩ := ry
  obtain ⟨its, r, pl, hz⟩ := I.tuple hq
  obtain ⟨j, h1, h2, h3, h4, h5⟩ := atI_get he
  obtain ⟨w, ew, rw'⟩ := r.get h2
  have hl := r.length
  have hn := line63
  have fin : EP X pins σ Q w s := ⟨z, H, I, rw', q⟩
  exact subscriptTail_builtinR (x := w) pl.typeIs slot_tuple_getitem.lookup
    (getItem_tuple (j := j) (Q := fun r s' => r = w ∧ EP X pins σ Q r s') pl (by omega) (by omega) (by rw [List.size_toArray, ← hl]; exact h1) (by simpa using ew) ⟨rfl, fin⟩) hs
/-! ### xs[i] = v, any sign -/
/-- the list's object behind a store -/
theorem mapSeq_set (its : List Value) (n j : Nat) (u : Value) : Obj.mapSeq (·.setIfInBounds j u) { cls := .type "list", data := .seq its.toArray n } = { cls := .type "list", data := .seq (its.set j u).toArray n } := by
  simp [Obj.mapSeq]
theorem Inv.lst {pins : List (Addr × Obj)} {σ : St} {H : Hp} {s : Shared} {p : Addr} {xs : List V} (I : Inv X pins σ H s) (h : H p = some (.lst xs)) :
    ∃ (its : List Value) (n : Nat), Vals xs its ∧ s.heap.get? p = some { cls := .type "list", data := .seq its.toArray n } ∧ xs.length ≤ sizeLine := by
  obtain ⟨z, its, n, r, e⟩ := I.hok p _ h
  exact ⟨its, n, r, e, z⟩
/-- the list at p is written by an update of its object -/
theorem Inv.lstUpd {pins : List (Addr × Obj)} {σ : St} {H : Hp} {s : Shared} {p : Addr} {xs ys : List V} {its its' : List Value} {n n' : Nat} {f : Obj → Obj} (I : Inv X pins σ H s) (h : H p = some (.lst xs))
    (ho : s.heap.get? p = some { cls := .type "list", data := .seq its.toArray n }) (hf : f { cls := .type "list", data := .seq its.toArray n } = { cls := .type "list", data := .seq its'.toArray n' }) (r : Vals ys its') (hz : ys.length ≤ sizeLine) (t : Nat) :
    Inv X pins σ (upd H p (.lst ys)) { s with heap := s.heap.update p f, toks := t } := by
  have e : (s.heap.update p f).get? p = some { cls := .type "list", data := .seq its'.toArray n' } := by
    rw [Heap.get?_update_self f ho (by rw [hf] <;> rfl), hf]
  refine I.write (x := p) (e := p) (by rw [h]; trivial) (.inl rfl) (fun b u hb q => (Heap.get?_update_other _ _ (Ne.symm hb)).trans q) ⟨_, e⟩ ?_
  exact ⟨hz, its', n', r, e⟩
def rSetL : V → V → V → Hp → (Hp → Prop) → Prop := fun o i v H Q => ∃ p xs k j, o = .ref p ∧ i = .int k ∧ H p = some (.lst xs) ∧ ixN xs.length k = some j ∧ Q (upd H p (.lst (xs.set j v)))
theorem set_list : PSet X rSetL := by
  intro pins s σ H o i v ov iv u Q I ro ri rv h
  obtain ⟨p, xs, k, j, rfl, rfl, hp, hj, q⟩ := h
  cases ro
  obtain ⟨t, rfl⟩ := ri
  obtain ⟨its, n, r, ho, hz⟩ := I.lst hp
  obtain ⟨h1, h2, h3, h4⟩ := ixN_seq hj
  have hl := r.length
  have hn := line63
  have I' : Inv X pins σ (upd H p (.lst (xs.set j v))) { s with heap := s.heap.update p (Obj.mapSeq (·.setIfInBounds j u)) } :=
    I.lstUpd hp ho (mapSeq_set its n j u) (r.set rv j) (by rw [List.length_set]; exact hz) s.toks
  by_cases h0 : 0 ≤ k
  · have hk : k.toNat = j := by
      rw [seqIndex_of h0 h4] at h1
      exact Option.some.inj h1
    exact PySem.W.ki_setAt ho h0 (by omega) (by rw [List.size_toArray, ← hl]; exact h4) (by rw [hk]; exact ⟨_, I', q⟩)
  · have hk : (k + (its.toArray.size : Int)).toNat = j := by
      rw [seqIndex_neg (by omega) h3] at h1
      rw [List.size_toArray, ← hl]
      exact Option.some.inj h1
    exact PySem.W.ki_setBack ho (by omega) (by rw [List.size_toArray, ← hl]; exact h3) (by omega) (by rw [hk]; exact ⟨_, I', q⟩)
/-! ### slices -/
theorem slice_bounds (lo hi : Option Int) (n : Nat) : (sliceBounds lo hi none n).1 = ((HT.sIx n 0 lo : Nat) : Int) ∧ (sliceBounds lo hi none n).2.1 = ((HT.sIx n n hi : Nat) : Int) ∧ (sliceBounds lo hi none n).2.2 = 1 := by
  refine ⟨?_, ?_, rfl⟩
  · cases lo with
    | none => simp [sliceBounds, HT.sIx]
    | some i =>
      simp only [sliceBounds, HT.sIx, Option.getD_none, show (1 : Int) > 0 by decide, if_true]
      by_cases h : i < 0
      · simp only [h, if_true] <;> omega
      · simp only [h, if_false] <;> omega
  · cases hi with
    | none => simp [sliceBounds, HT.sIx]
    | some i =>
      simp only [sliceBounds, HT.sIx, Option.getD_none, show (1 : Int) > 0 by decide, if_true]
      by_cases h : i < 0
      · simp only [h, if_true] <;> omega
      · simp only [h, if_false] <;> omega
theorem slicePick_cut (its : List Value) (lo hi : Option Int) : slicePick its.toArray lo hi none = ((its.drop (HT.sIx its.length 0 lo)).take (HT.sIx its.length its.length hi - HT.sIx its.length 0 lo)).toArray := by
  obtain ⟨h1, h2, h3⟩ := slice_bounds lo hi its.toArray.size
  unfold slicePick
  rw [h1, h2, h3]
  simp only [sliceRange_one, pick_run, List.size_toArray] <;> rfl
/-- xs[lo:hi] of a list: a new list -/
def rSlL (K : PySem.W.Frag) : V → Option Int → Option Int → Hp → VK → Prop := fun x lo hi H Q => ∃ a xs, x = .ref a ∧ SqL K H a xs ∧ ∀ p, H p = none → Q (.ref p) (upd H p (.lst (cutV xs lo hi)))
theorem sl_list : SlR X (rSlL X.K) := by
  intro pins s σ H x v vl vu lo hi sl Q I rx hs pl pu h
  obtain ⟨a, xs, rfl, hx, q⟩ := h
  cases rx
  obtain ⟨its, r, ht, hz⟩ := I.list hx
  have hlen := r.length
  refine ⟨"list", _, slot_list_getitem.lookup, ht.isList.typeIs, ?_⟩
  refine wpAny_getItem_list_slice ht.isList hs pl pu .none (by simp) ?_ (by rw [List.size_toArray] <;> omega)
  rw [slicePick_cut, ← hlen]
  refine ⟨.ref s.heap.objs.size, _, I.laid (t' := s.toks) (o := .lst (cutV xs lo hi)) (fun b ob q => Heap.get?_push_of_some _ q) (Nat.le_refl _) ?_, rfl, q _ (I.hok.fresh (Nat.le_refl _))⟩
  exact ⟨Nat.le_trans (cutV_length xs lo hi) hz, _, 0, (r.drop (HT.sIx xs.length 0 lo)).take (HT.sIx xs.length xs.length hi - HT.sIx xs.length 0 lo), Heap.get?_push_size _ rfl⟩
/-! ### in, not in: flat items -/
/-! ### len, list(x), tuple(x) of any list or tuple that is read -/
theorem call_len_seq : CallR X (.builtin "len") (fun xs H Q => ∃ p ys, xs = [.ref p] ∧ (SqL X.K H p ys ∨ SqT X.K H p ys) ∧ Q (.int ys.length) H) := by
  intro pins s σ H xs us Q I r h
  obtain ⟨p, ys, rfl, hq, q⟩ := h
  obtain ⟨u, rfl, rx⟩ := vals1 r
  cases rx
  have hn := line63
  rcases hq with hq | hq
  · obtain ⟨its, r', pl, hz⟩ := I.list hq
    have hlen := r'.length
    exact Calls.call_len_list pl.isList (by simp only [List.size_toArray] <;> omega) ⟨.int ys.length, H, I.tok _, ⟨s.toks + 1, by rw [List.size_toArray, hlen]⟩, q⟩
  · obtain ⟨its, r', pl, hz⟩ := I.tuple hq
    have hlen := r'.length
    exact len_tuple pl (by simp only [List.size_toArray] <;> omega) ⟨.int ys.length, H, I.tok _, ⟨s.toks + 1, by rw [List.size_toArray, hlen]⟩, q⟩
theorem call_list_of : CallR X (.type "list") (fun xs H Q => ∃ p ys, xs = [.ref p] ∧ (SqL X.K H p ys ∨ SqT X.K H p ys) ∧ ∀ l, H l = none → Q (.ref l) (upd H l (.lst ys))) := by
  intro pins s σ H xs us Q I r h
  obtain ⟨p, ys, rfl, hq, q⟩ := h
  obtain ⟨u, rfl, rx⟩ := vals1 r
  cases rx
  have fin : ∀ (its : List Value), Vals ys its → ys.length ≤ sizeLine → ∀ (h' : Heap) (c' : Nat), (∀ b o', s.heap.get? b = some o' → h'.get? b = some o') →
      h'.get? s.heap.objs.size = some { cls := .type "list", dict := none, data := .seq its.toArray c', slots := #[] } → EP X pins σ Q (.ref s.heap.objs.size) { s with heap := h' } := fun its r' hz h' c' kp e =>
    ⟨.ref s.heap.objs.size, _, I.laid (t' := s.toks) kp (Nat.le_refl _) (show ObjOk X.prog X.w _ h' _ (.lst ys) from ⟨hz, its, c', r', e⟩), rfl, q _ (I.hok.fresh (Nat.le_refl _))⟩
  rcases hq with hq | hq
  · obtain ⟨its, r', pl, hz⟩ := I.list hq
    have hlen := r'.length
    obtain ⟨o, ho, hc, n, hd⟩ := pl.isList
    exact call_list_seq p (.inl rfl) ho hc hd (fun h' c' kp e => fin its r' hz h' c' kp e) (by simp only [List.size_toArray] <;> omega)
  · obtain ⟨its, r', pl, hz⟩ := I.tuple hq
    have hlen := r'.length
    obtain ⟨o, ho, hc, n, hd⟩ := pl
    exact call_list_seq p (.inr rfl) ho hc hd (fun h' c' kp e => fin its r' hz h' c' kp e) (by simp only [List.size_toArray] <;> omega)
/-! ### the call of a builtin's method: o.m(..) -/
/-- the value is of that builtin type -/
def tyV (K : PySem.W.Frag) (T : String) (x : V) (H : Hp) : Prop := match x with
  | .str _ => T = "str"
  | .int _ => T = "int"
  | .ref p => (T = "list" ∧ ∃ xs, SqL K H p xs) ∨ (T = "tuple" ∧ ∃ o, K.lookup p = some o ∧ o.cls = .type "tuple" ∧ o.dict = none) ∨
      (T = "dict" ∧ ((∃ kvs, H p = some (.dK kvs)) ∨ ∃ kvs, H p = some (.dT kvs))) ∨ (T = "set" ∧ ∃ S n, H p = some (.set S n))
  | _ => False
theorem tyV_is {pins : List (Addr × Obj)} {σ : St} {H : Hp} {s : Shared} {T : String} {x : V} {v : Value} (I : Inv X pins σ H s) (r : RelV x v) (ty : tyV X.K T x H) :
    s.TypeIs v T ∧ ∀ a, v = .ref a → ∃ ob, s.heap.get? a = some ob ∧ ob.dict = none := by
  cases x with
  | str z =>
    obtain ⟨t, rfl⟩ := r
    cases (show T = "str" from ty)
    exact ⟨typeIs_str s z t, fun _ e => nomatch e⟩
  | int i =>
    obtain ⟨t, rfl⟩ := r
    cases (show T = "int" from ty)
    exact ⟨typeIs_int s i t, fun _ e => nomatch e⟩
  | ref p =>
    cases r
    rcases ty with ⟨rfl, xs, hq⟩ | ⟨rfl, o, hk, hc, hd⟩ | ⟨rfl, hk⟩ | ⟨rfl, S, n, hk⟩
    · obtain ⟨its, _, pl, _⟩ := I.list hq
      refine ⟨pl.isList.typeIs, fun a e => ?_⟩
      cases e
      obtain ⟨o, n, e, c, hd, _⟩ := pl
      exact ⟨o, e, hd⟩
    · refine ⟨⟨o, I.kIn p o hk, hc⟩, fun a e => ?_⟩
      cases e
      exact ⟨o, I.kIn _ o hk, hd⟩
    · have z : ∃ o, s.heap.get? p = some o ∧ o.ExactDict := by
        rcases hk with ⟨kvs, hk⟩ | ⟨kvs, hk⟩
        · obtain ⟨_, _, _, _, o, _, _, e, ex, _⟩ := I.hok p _ hk
          exact ⟨o, e, ex⟩
        · obtain ⟨_, _, _, _, o, _, _, e, ex, _⟩ := I.hok p _ hk
          exact ⟨o, e, ex⟩
      obtain ⟨o, e, ex⟩ := z
      refine ⟨⟨o, e, ex.1⟩, fun a e2 => ?_⟩
      cases e2
      exact ⟨o, e, ex.2.1⟩
    · obtain ⟨o, _, _, _, e, ex, _⟩ := I.hok p _ hk
      refine ⟨⟨o, e, ex.1⟩, fun a e2 => ?_⟩
      cases e2
      exact ⟨o, e, ex.2.1⟩
  | _ => exact False.elim ty
def tBM0 (K : PySem.W.Frag) (T : String) (r : V → List V → Hp → VK → Prop) (to : TE) : TE := fun σ H Q => to σ H fun x H1 => tyV K T x H1 ∧ r x [] H1 Q
def tBM (K : PySem.W.Frag) (T : String) (r : V → List V → Hp → VK → Prop) (to : TE) (t : TA) : TE := fun σ H Q => to σ H fun x H1 => tyV K T x H1 ∧ t σ H1 fun xs H2 => r x xs H2 Q
variable {o e : Expr} {es : List Expr} {to : TE} {t : TA} {name : Str} {apos cpos : Pos} {T id : String} {r : V → List V → Hp → VK → Prop}
theorem pe_bm0 (pa : PlainAttrs T) (slot : Slot T name id) (hty : typeOf (.builtin id) = pure (.type "method_descriptor")) (hm : MtR X id r) (ho : PE X o to)
    (hbase : attributeBase o name X.env (eval o X.env) = eval o X.env := by rfl) (hline : (apos.endLine == cpos.line) = true := by rfl) : PE X (.Call (.Attribute o name apos) [] [] cpos) (tBM0 X.K T r to) := by
  intro pins s σ H Q I h
  refine wpAny_Call_method0_late hbase hline (thn (ho pins s σ H _ I h) fun v s1 ⟨x, H1, I1, r1, ty, q1⟩ => ?_)
  obtain ⟨h1, h2⟩ := tyV_is I1 r1 ty
  exact ⟨T, id, pa, slot, hty, h1, h2, Calls.callWith_builtin rfl (PySem.evalArgs_none (hm pins s1 σ H1 x [] v [] Q I1 r1 .nil q1))⟩
theorem pe_bm (pa : PlainAttrs T) (slot : Slot T name id) (hty : typeOf (.builtin id) = pure (.type "method_descriptor")) (hm : MtR X id r) (ho : PE X o to) (ha : PA X (e :: es) t)
    (hbase : attributeBase o name X.env (eval o X.env) = eval o X.env := by rfl)
    (hfew : ((backTo cpos (starEach (e :: es) X.env)).all (fun x => !x.1) && (backToKw cpos (keywordEach [] X.env)).all (fun x => x.1.isSome)
      && decide ((e :: es).length + ([] : List Keyword).length + (if ([] : List Keyword).isEmpty then 0 else 1) < 30)) = true := by rfl)
    (hline : (apos.endLine == cpos.line) = true := by rfl) (hs : starEach (e :: es) X.env = (false, eval e X.env) :: starEach es X.env := by rfl) (hplain : (backTo cpos (starEach es X.env)).any (·.1) = false := by rfl) :
    PE X (.Call (.Attribute o name apos) (e :: es) [] cpos) (tBM X.K T r to t) := by
  intro pins s σ H Q I h
  refine wpAny_Call_method_late hbase hfew hline rfl (thn (ho pins s σ H _ I h) fun v s1 ⟨x, H1, I1, r1, ty, q1⟩ => ?_)
  obtain ⟨h1, h2⟩ := tyV_is I1 r1 ty
  refine ⟨T, id, pa, slot, hty, h1, h2, ?_⟩
  have hA := ha cpos pins s1 σ H1 _ I1 q1
  rw [hs] at hA ⊢
  refine Calls.callWith_builtin (by show (false || (backTo cpos (starEach es X.env)).any (·.1)) = false; rw [hplain] <;> rfl) (Calls.evalArgs_plain ?_)
  exact thn hA fun us s2 ⟨vs, H2, I2, r2, q2⟩ => hm pins s2 σ H2 x vs v us Q I2 r1 r2 q2
/- xs.append(e), list.index on a module's tuple .. are MtR facts of 06m -/
end
end L2
namespace L2
open PySem PySem.Spec PyProof.Rows
def MtM (X : Cx) (id : String) (r : V → List V → Hp → VK → Prop) : Prop :=
  ∀ (pins : List (Addr × Obj)) (s : Shared) (σ : St) (H : Hp) (x : V) (xs : List V) (v : Value) (us : List Value) (Q : VK), Inv X pins σ H s → RelV x v → Vals xs us → r x xs H Q →
    wpAny (model X.prog X.w) X.A (call (.builtin id) (v :: us)) (EP X pins σ Q) X.xe s
/-! ### lists of values -/
theorem Vals.one : ∀ {x : V} {us : List Value}, Vals [x] us → ∃ u, us = [u] ∧ RelV x u
  | _, _, .cons r .nil => ⟨_, rfl, r⟩
theorem Vals.zero : ∀ {us : List Value}, Vals [] us → us = []
  | _, .nil => rfl
theorem Vals.dropLast {xs : List V} {us : List Value} (h : Vals xs us) : Vals xs.dropLast us.dropLast := by
  induction h with
  | nil => exact .nil
  | cons r t ih =>
    cases t with
    | nil => exact .nil
    | cons q t' => exact .cons r ih
theorem Vals.rep {xs : List V} {us : List Value} (h : Vals xs us) : ∀ k : Nat, Vals (List.replicate k xs).flatten (List.replicate k us).flatten
  | 0 => .nil
  | k + 1 => by
    rw [List.replicate_succ, List.replicate_succ, List.flatten_cons, List.flatten_cons]
    exact Vals.append h (Vals.rep h k)
theorem erase_last {α : Type} (l : List α) : l.eraseIdx (l.length - 1) = l.dropLast := by
  induction l with
  | nil => rfl
  | cons a r ih =>
    cases r with
    | nil => rfl
    | cons b r =>
      have e : (a :: b :: r).length - 1 = ((b :: r).length - 1) + 1 := by
        have h1 : (a :: b :: r).length = r.length + 2 := rfl
        have h2 : (b :: r).length = r.length + 1 := rfl
        omega
      rw [e, List.eraseIdx_cons_succ, ih]
      all_goals rfl
theorem foldl_rep (its : List Value) : ∀ (k : Nat) (acc : List Value),
    List.foldl (fun x1 x2 => x1 ++ x2) acc.toArray (List.replicate k its.toArray) = (acc ++ (List.replicate k its).flatten).toArray
  | 0, acc => by simp
  | k + 1, acc => by
    have e : acc.toArray ++ its.toArray = (acc ++ its).toArray := by simp
    have e2 : (acc ++ its) ++ (List.replicate k its).flatten = acc ++ (List.replicate (k + 1) its).flatten := by
      rw [List.replicate_succ, List.flatten_cons, List.append_assoc]
    rw [← e2, ← foldl_rep its k (acc ++ its), ← e, List.replicate_succ, List.foldl_cons]
section
variable {X : Cx} {pins : List (Addr × Obj)} {σ : St} {H : Hp} {s : Shared} {l b : Addr} {xs ys zs : List V}
/-! ### the two steps: a tracked list is rewritten, a new list is laid -/
theorem Inv.lset {its its' : List Value} {n : Nat} {f : Array Value → Array Value} {t' : Nat} (I : Inv X pins σ H s) (hH : H l = some (.lst xs))
    (e : s.heap.get? l = some { cls := .type "list", data := .seq its.toArray n }) (hf : f its.toArray = its'.toArray) (hv : Vals ys its') (hz : ys.length ≤ sizeLine) :
    Inv X pins σ (upd H l (.lst ys)) { s with heap := s.heap.update l (Obj.mapSeq f), toks := t' } := by
  have q := PySem.IsL.update e f
  rw [hf] at q
  refine I.write (x := l) (e := l) (by rw [hH]; exact trivial) (.inl rfl) (fun b' u hb hu => (Heap.get?_update_other s.heap (Obj.mapSeq f) (Ne.symm hb)).trans hu) ⟨_, q⟩ ?_
  exact ⟨hz, its', _, hv, q⟩
theorem Inv.lnew {its : List Value} {t' : Nat} (I : Inv X pins σ H s) (hv : Vals ys its) (hz : ys.length ≤ sizeLine) :
    Inv X pins σ (upd H s.heap.objs.size (.lst ys)) { s with heap := s.heap.push { cls := .type "list", data := .seq its.toArray }, toks := t' } :=
  I.laid (fun _ _ q => Heap.get?_push_of_some _ q) (Nat.le_refl _) ⟨hz, its, 0, hv, Heap.get?_push_size _ rfl⟩
theorem Inv.fresh (I : Inv X pins σ H s) : H s.heap.objs.size = none := I.hok.fresh (Nat.le_refl _)
theorem Inv.lstM (I : Inv X pins σ H s) (hH : H l = some (.lst xs)) : xs.length ≤ sizeLine ∧ ∃ (its : List Value) (n : Nat), Vals xs its ∧ xs.length = its.length ∧ s.heap.get? l = some { cls := .type "list", data := .seq its.toArray n } := by
  obtain ⟨z, its, n, r, e⟩ := I.hok l _ hH
  exact ⟨z, its, n, r, r.length, e⟩
theorem notLongL {n : Nat} (h : n ≤ sizeLine) : Builtin.List.listTooLong n = false := by
  unfold Builtin.List.listTooLong
  exact decide_eq_false (by omega)
end
section
variable {X : Cx}
/-! ### methods -/
def rAppend : V → List V → Hp → VK → Prop := fun x vs H Q => ∃ l xs y, x = .ref l ∧ vs = [y] ∧ H l = some (.lst xs) ∧ xs.length < sizeLine ∧ Q .non (upd H l (.lst (xs ++ [y])))
theorem mt_append : MtM X "list.append" rAppend := by
  intro pins s σ H x vs v us Q I rx rv h
  obtain ⟨l, xs, y, rfl, rfl, hH, hz, q⟩ := h
  cases rx
  obtain ⟨u, rfl, ru⟩ := rv.one
  obtain ⟨z, its, n, r, hl, e⟩ := I.lstM hH
  refine call_meets F.slot_list_append ⟨_, e, rfl⟩ F.entry_list_append (F.args_list_append_2 _ _) (PySem.list_append l its.toArray n u (by rw [List.size_toArray]; omega)) ⟨e, ?_⟩
  refine ⟨.non, _, I.lset (its' := its ++ [u]) hH e (by simp) (r.append (.cons ru .nil)) ?_, rfl, q⟩
  rw [List.length_append, List.length_singleton]
  omega
def rExtend : V → List V → Hp → VK → Prop := fun x vs H Q => ∃ l b xs zs, x = .ref l ∧ vs = [.ref b] ∧ H l = some (.lst xs) ∧ H b = some (.lst zs) ∧ xs.length + zs.length ≤ sizeLine ∧ Q .non (upd H l (.lst (xs ++ zs)))
theorem mt_extend : MtM X "list.extend" rExtend := by
  intro pins s σ H x vs v us Q I rx rv h
  obtain ⟨l, b, xs, zs, rfl, rfl, hH, hB, hz, q⟩ := h
  cases rx
  obtain ⟨u, rfl, ru⟩ := rv.one
  cases ru
  obtain ⟨z, its, n, r, hl, e⟩ := I.lstM hH
  obtain ⟨z2, its2, n2, r2, hl2, e2⟩ := I.lstM hB
  have hsz : its.toArray.size + its2.toArray.size ≤ sizeLine := by rw [List.size_toArray, List.size_toArray]; omega
  have hlong : ¬ (!its.toArray.isEmpty && Builtin.List.listTooLong (its.toArray.size + its2.toArray.size)) = true := by
    rw [notLongL hsz, Bool.and_false]
    exact Bool.false_ne_true
  refine call_meets F.slot_list_extend ⟨_, e, rfl⟩ F.entry_list_extend (F.args_list_extend_2 _ _)
    (AutoSeq1.list_extend_list_list_0 l its.toArray n b its2.toArray n2 hlong (by rw [List.size_toArray]; omega) (by omega)) ⟨e, e2, ?_⟩
  refine ⟨.non, _, I.lset (its' := its ++ its2) hH e (by simp) (r.append r2) ?_, rfl, q⟩
  rw [List.length_append]
  omega
def rPop : V → List V → Hp → VK → Prop := fun x vs H Q => ∃ l xs y, x = .ref l ∧ vs = [] ∧ H l = some (.lst xs) ∧ xs[xs.length - 1]? = some y ∧ Q y (upd H l (.lst xs.dropLast))
theorem mt_pop : MtM X "list.pop" rPop := by
  intro pins s σ H x vs v us Q I rx rv h
  obtain ⟨l, xs, y, rfl, rfl, hH, hy, q⟩ := h
  cases rx
  have hus := rv.zero
  subst hus
  obtain ⟨z, its, n, r, hl, e⟩ := I.lstM hH
  obtain ⟨u, hu, ru⟩ := r.get hy
  have hy' : its.toArray[its.toArray.size - 1]? = some u := by
    show its.toArray[its.length - 1]? = some u
    rw [← Array.getElem?_toList, ← hl]
    exact hu
  refine call_meets F.slot_list_pop ⟨_, e, rfl⟩ F.entry_list_pop (F.args_list_pop_1 _) (MeetsSeq.list_pop_last l its.toArray n u hy' (by rw [List.size_toArray]; omega)) ⟨e, ?_⟩
  refine ⟨y, _, I.lset (its' := its.dropLast) hH e ?_ r.dropLast ?_, ru, q⟩
  · show its.toArray.eraseIdxIfInBounds (its.toArray.size - 1) = its.dropLast.toArray
    rw [List.size_toArray, List.eraseIdxIfInBounds_toArray, erase_last]
  · rw [List.length_dropLast]
    omega
/-! ### list + list, list += list, list * int -/
def rCat : R2 := fun x y H Q => ∃ l b xs zs, x = .ref l ∧ y = .ref b ∧ H l = some (.lst xs) ∧ H b = some (.lst zs) ∧ xs.length + zs.length ≤ sizeLine ∧ ∀ p, H p = none → Q (.ref p) (upd H p (.lst (xs ++ zs)))
theorem op_cat : OpR X (binaryOp .Add) rCat := by
  intro pins s σ H x y v u Q I rx ry h
  obtain ⟨l, b, xs, zs, rfl, rfl, hH, hB, hz, q⟩ := h
  cases rx
  cases ry
  obtain ⟨z, its, n, r, hl, e⟩ := I.lstM hH
  obtain ⟨z2, its2, n2, r2, hl2, e2⟩ := I.lstM hB
  refine PySem.P.add_list e e2 ?_ (by rw [List.size_toArray, List.size_toArray]; omega)
  have ea : its.toArray ++ its2.toArray = (its ++ its2).toArray := by simp
  rw [ea]
  exact ⟨.ref _, _, I.lnew (t' := s.toks) (r.append r2) (by rw [List.length_append]; omega), rfl, q _ I.fresh⟩
/-- a list times an int (a negative one is nothing) -/
def rRep : R2 := fun x y H Q => ∃ l k xs, x = .ref l ∧ y = .int k ∧ H l = some (.lst xs) ∧ -(2 ^ 63) ≤ k ∧ k < 2 ^ 63 ∧ xs.length * k.toNat ≤ sizeLine ∧
  ∀ p, H p = none → Q (.ref p) (upd H p (.lst (List.replicate k.toNat xs).flatten))
theorem len_rep {α : Type} (xs : List α) (k : Nat) : (List.replicate k xs).flatten.length = k * xs.length := by
  induction k with
  | zero => simp
  | succ k ih => rw [List.replicate_succ, List.flatten_cons, List.length_append, ih, Nat.succ_mul, Nat.add_comm]
theorem op_rep : OpR X (binaryOp .Mult) rRep := by
  intro pins s σ H x y v u Q I rx ry h
  obtain ⟨l, k, xs, rfl, rfl, hH, h1, h2, hz, q⟩ := h
  cases rx
  obtain ⟨t, rfl⟩ := ry
  obtain ⟨z, its, n, r, hl, e⟩ := I.lstM hH
  have hlen : its.toArray.size * k.toNat ≤ sizeLine := by rw [List.size_toArray, ← hl]; exact hz
  have hcap : ¬ its.toArray.size * k.toNat > (2 ^ 63 - 1) / 8 := by
    have : (sizeLine : Nat) ≤ (2 ^ 63 - 1) / 8 := by decide
    omega
  have hfit : ¬ (!Builtin.List.listFitsIndex k) = true := by
    rw [fitsIndex_both h1 h2]
    exact Bool.false_ne_true
  have hlong : ¬ Builtin.List.listTooLong (its.toArray.size * k.toNat) = true := by
    rw [notLongL hlen]
    exact Bool.false_ne_true
  have hnew : List.foldl (fun x1 x2 => x1 ++ x2) #[] (List.replicate (if its.toArray.isEmpty = true then 0 else k.toNat) its.toArray) = (List.replicate k.toNat its).flatten.toArray := by
    have f0 : ∀ m : Nat, List.foldl (fun x1 x2 => x1 ++ x2) #[] (List.replicate m its.toArray) = (List.replicate m its).flatten.toArray := fun m => by
      have := foldl_rep its m []
      rw [List.nil_append] at this
      exact this
    rw [f0]
    cases its with
    | nil => simp
    | cons a r' => rw [if_neg (by simp)]
  refine wpAny_binaryOp_repeat_ref (T := "list") (U := "int") (by decide) ⟨_, e, rfl⟩ (fun s' => typeIs_int s' k t) noFill_list_mul F.fills_int_mul F.slot_int_rmul repeat_list F.slot_int_index.lookup
    (call_meets F.slot_int_rmul (typeIs_int s k t) F.entry_int_rmul (F.args_int_rmul_2 _ _) (int___rmul___int_list k t l its.toArray n)
      ⟨e, rfl, ⟨_, e, rfl⟩, call_meets F.slot_list_mul ⟨_, e, rfl⟩ F.entry_list_mul (F.args_list_mul_2 _ _) (AutoListH.list___mul___list_int_3 l its.toArray n k t hfit hcap hlong) ⟨e, ?_⟩⟩)
  rw [hnew]
  exact ⟨.ref _, _, I.lnew (t' := s.toks) (r.rep k.toNat) (by rw [len_rep, Nat.mul_comm]; exact hz), rfl, q _ I.fresh⟩
/-! ### del xs[i] -/
end
/-! ### xs[a:b] = ys -/
section
variable {prog : Program} {w : World} {A : Around} {E : Value → Shared → Prop} {s : Shared}
set_option maxRecDepth 100000 in
end
end L2
namespace L2
open PySem PySem.Spec PyProof.Rows
abbrev CellAt (h : Heap) (c : Addr) (v : Option Value) : Prop := h.IsCell c v
def relS (scope sc : Scope) : Scope :=
  { scope with names := scope.names.map fun (n, k) => if (k == .free && sc.kind == .function && sc.names.lookup n == some .cell) then (n, .cell) else (n, k) }
def cloFrom (cells : List (Str × Addr)) : List (Str × NameKind) → List (Str × Addr) → List (Str × Addr)
  | [], acc => acc
  | (n, k) :: r, acc => if k == .free then cloFrom cells r ((n, (cells.lookup n).getD 0) :: acc) else cloFrom cells r acc
theorem closure_loop (env : Env) (f : Str × NameKind → List (Str × Addr) → Sem (ForInStep (List (Str × Addr))))
    (hf : ∀ n k c, f (n, k) c = if k == .free then (do let a ← cellOf env n; pure (.yield ((n, a) :: c))) else pure (.yield c)) :
    ∀ (names : List (Str × NameKind)) (acc : List (Str × Addr)), (∀ y ∈ names, y.2 = .free → ∃ c, env.cells.lookup y.1 = some c) → forIn names acc f = pure (cloFrom env.cells names acc)
  | [], acc, _ => by rw [List.forIn_nil]; rfl
  | (n, k) :: r, acc, h => by
    rw [List.forIn_cons, hf]
    have ih := fun acc => closure_loop env f hf r acc fun y hy => h y (List.mem_cons_of_mem _ hy)
    unfold cloFrom
    by_cases hk : (k == NameKind.free) = true
    · rw [if_pos hk, if_pos hk]
      obtain ⟨c, hc⟩ := h (n, k) List.mem_cons_self (by simpa using hk)
      have e : cellOf env n = pure c := by unfold cellOf; rw [hc]
      rw [e]
      have e2 : (env.cells.lookup n).getD 0 = c := by rw [hc]; rfl
      rw [e2]
      exact ih _
    · rw [if_neg hk, if_neg hk]
      exact ih _
theorem closure_ok {scope : Scope} {env : Env} (h : ∀ y ∈ scope.names, y.2 = .free → ∃ c, env.cells.lookup y.1 = some c) : closureFor scope env = pure (cloFrom env.cells scope.names []) := by
  simp only [closureFor]
  rw [closure_loop env _ (fun n k c => rfl) scope.names [] h]
  rfl
theorem mem_lookup {α : Type} : ∀ {l : List (Str × α)} {n : Str} {c : α}, (n, c) ∈ l → ∃ c', l.lookup n = some c'
  | (k, v) :: r, n, c, h => by
    rw [List.lookup_cons]
    cases hb : n == k with
    | true => exact ⟨_, rfl⟩
    | false =>
      rcases List.mem_cons.mp h with e | h
      · cases e; simp at hb
      · exact mem_lookup h
theorem cloFrom_mem {cells : List (Str × Addr)} : ∀ {names : List (Str × NameKind)} {acc : List (Str × Addr)} {n : Str} {c : Addr}, (n, c) ∈ cloFrom cells names acc → (n, c) ∈ acc ∨ ((n, .free) ∈ names ∧ c = (cells.lookup n).getD 0)
  | [], _, _, _, h => .inl h
  | (m, k) :: r, acc, n, c, h => by
    unfold cloFrom at h
    split at h
    · rename_i hk
      have hk : k = .free := by simpa using hk
      rcases cloFrom_mem h with h | ⟨h1, h2⟩
      · rcases List.mem_cons.mp h with e | h
        · cases e; exact .inr ⟨hk ▸ List.mem_cons_self, rfl⟩
        · exact .inl h
      · exact .inr ⟨List.mem_cons_of_mem _ h1, h2⟩
    · rcases cloFrom_mem h with h | ⟨h1, h2⟩
      · exact .inl h
      · exact .inr ⟨List.mem_cons_of_mem _ h1, h2⟩
theorem cloFrom_acc {cells : List (Str × Addr)} : ∀ {names : List (Str × NameKind)} {acc : List (Str × Addr)} {p : Str × Addr}, p ∈ acc → p ∈ cloFrom cells names acc
  | [], _, _, h => h
  | (m, k) :: r, acc, p, h => by
    unfold cloFrom
    split
    · exact cloFrom_acc (List.mem_cons_of_mem _ h)
    · exact cloFrom_acc h
theorem cloFrom_has {cells : List (Str × Addr)} : ∀ {names : List (Str × NameKind)} {acc : List (Str × Addr)} {n : Str}, (n, .free) ∈ names → (n, (cells.lookup n).getD 0) ∈ cloFrom cells names acc
  | (m, k) :: r, acc, n, h => by
    unfold cloFrom
    rcases List.mem_cons.mp h with e | h
    · cases e
      exact cloFrom_acc List.mem_cons_self
    · split
      · exact cloFrom_has h
      · exact cloFrom_has h
theorem cells_mem : ∀ {names : List (Str × NameKind)} {h : Heap} {acc : List (Str × Addr)} {x : Str} {c : Addr}, (x, c) ∈ cellsFrom h.objs.size names acc →
    (x, c) ∈ acc ∨ ((x, .cell) ∈ names ∧ h.objs.size ≤ c ∧ CellAt (pushCells h names) c none)
  | [], _, _, _, _, h => .inl h
  | (n, k) :: r, h, acc, x, c, hm => by
    unfold cellsFrom at hm
    unfold pushCells
    split at hm
    · rename_i hk
      rw [if_pos hk]
      have hk : k = .cell := by simpa using hk
      rw [← Heap.size_push h { cls := .type "cell", data := .cell none }] at hm
      rcases cells_mem hm with hm | ⟨h1, h2, h3⟩
      · rcases List.mem_cons.mp hm with e | hm
        · cases e
          exact .inr ⟨hk ▸ List.mem_cons_self, Nat.le_refl _, _, pushCells_keeps r _ _ _ (Heap.get?_push_size _ rfl), rfl⟩
        · exact .inl hm
      · rw [Heap.size_push] at h2
        exact .inr ⟨List.mem_cons_of_mem _ h1, Nat.le_of_succ_le h2, h3⟩
    · rename_i hk
      rw [if_neg hk]
      rcases cells_mem hm with hm | ⟨h1, h2, h3⟩
      · exact .inl hm
      · exact .inr ⟨List.mem_cons_of_mem _ h1, h2, h3⟩
theorem cells_acc : ∀ {names : List (Str × NameKind)} {n : Nat} {acc : List (Str × Addr)} {p : Str × Addr}, p ∈ acc → p ∈ cellsFrom n names acc
  | [], _, _, _, h => h
  | (m, k) :: r, n, acc, p, h => by
    unfold cellsFrom
    split
    · exact cells_acc (List.mem_cons_of_mem _ h)
    · exact cells_acc h
theorem cells_has : ∀ {names : List (Str × NameKind)} {n : Nat} {acc : List (Str × Addr)} {x : Str}, (x, .cell) ∈ names → ∃ c, (x, c) ∈ cellsFrom n names acc
  | (m, k) :: r, n, acc, x, h => by
    unfold cellsFrom
    rcases List.mem_cons.mp h with e | h
    · cases e
      exact ⟨n, cells_acc List.mem_cons_self⟩
    · split
      · exact cells_has h
      · exact cells_has h
theorem cells_inj : ∀ {names : List (Str × NameKind)} {h : Heap} {acc : List (Str × Addr)} {x y : Str} {c : Addr}, (∀ p ∈ acc, p.2 < h.objs.size) → (∀ x y c, (x, c) ∈ acc → (y, c) ∈ acc → x = y) →
    (x, c) ∈ cellsFrom h.objs.size names acc → (y, c) ∈ cellsFrom h.objs.size names acc → x = y
  | [], _, _, _, _, _, _, hi, h1, h2 => hi _ _ _ h1 h2
  | (n, k) :: r, h, acc, x, y, c, hl, hi, h1, h2 => by
    unfold cellsFrom at h1 h2
    split at h1
    · rename_i hk
      rw [if_pos hk] at h2
      rw [← Heap.size_push h { cls := .type "cell", data := .cell none }] at h1 h2
      refine cells_inj (h := h.push _) (fun p hp => ?_) (fun x y c a b => ?_) h1 h2
      · rw [Heap.size_push]
        rcases List.mem_cons.mp hp with rfl | hp
        · exact Nat.lt_succ_self _
        · exact Nat.lt_succ_of_lt (hl p hp)
      · rcases List.mem_cons.mp a with e | a <;> rcases List.mem_cons.mp b with e' | b
        · cases e; cases e'; rfl
        · cases e; exact absurd (hl _ b) (Nat.lt_irrefl _)
        · cases e'; exact absurd (hl _ a) (Nat.lt_irrefl _)
        · exact hi _ _ _ a b
    · rename_i hk
      rw [if_neg hk] at h2
      exact cells_inj hl hi h1 h2
theorem newEnv_comp {M : Model} {A : Around} {E : Value → Shared → Prop} {s : Shared} {scope : Scope} {globals : Addr} {closure : List (Str × Addr)} {qual : Str} {func : Option Addr} {code : Value} {around : Env} {builtins : Addr} {Q : Env → Shared → Prop}
    (h : Q (newEnv scope s.heap.objs.size globals (cellsFrom (s.heap.objs.size + 1) scope.names closure) qual func code (some around) builtins)
      { s with heap := pushCells (s.heap.push { cls := .type "dict", data := .dict #[] }) scope.names }) :
    wpAny M A (newFunctionEnv scope globals closure [] qual func code (some around) builtins) Q E s := by
  simp only [newFunctionEnv, Option.isSome_some, if_true]
  refine wpAny_bind (wpAny_alloc ?_)
  refine wpAny_bind (wpAny_layCells _ (fun n k c => rfl) scope.names closure _ _ ?_)
  rw [show ({ s with heap := s.heap.push { cls := .type "dict", data := .dict #[] } } : Shared).heap.objs.size = s.heap.objs.size + 1 from Heap.size_push ..]
  rw [List.forIn_nil]
  exact wpAny_bind (wpAny_pure (wpAny_pure h))
/-- every name of the written scope, in the scope that runs -/
theorem lookup_relS {sc : Scope} : ∀ {names : List (Str × NameKind)} {x : Str} {k : NameKind},
    (names.map fun (n, k) => if (k == NameKind.free && sc.kind == .function && sc.names.lookup n == some .cell) then (n, NameKind.cell) else (n, k)).lookup x = some k →
    ∃ k', names.lookup x = some k' ∧ (k = k' ∨ (k' = .free ∧ k = .cell))
  | [], _, _, h => by simp at h
  | (n, k₀) :: r, x, k, h => by
    have ih := @lookup_relS sc r x k
    have h' : List.lookup x ((if (k₀ == NameKind.free && sc.kind == .function && sc.names.lookup n == some .cell) = true then (n, NameKind.cell) else (n, k₀)) :: (r.map _)) = some k := h
    cases hx : x == n with
    | true =>
      simp only [List.lookup_cons, hx]
      by_cases hc : (k₀ == NameKind.free && sc.kind == .function && sc.names.lookup n == some .cell) = true
      · rw [if_pos hc] at h'
        simp only [List.lookup_cons, hx] at h'
        cases h'
        simp only [Bool.and_eq_true, beq_iff_eq] at hc
        exact ⟨k₀, rfl, .inr ⟨hc.1.1, rfl⟩⟩
      · rw [if_neg hc] at h'
        simp only [List.lookup_cons, hx] at h'
        cases h'
        exact ⟨_, rfl, .inl rfl⟩
    | false =>
      simp only [List.lookup_cons, hx]
      by_cases hc : (k₀ == NameKind.free && sc.kind == .function && sc.names.lookup n == some .cell) = true
      · rw [if_pos hc] at h'
        simp only [List.lookup_cons, hx] at h'
        exact ih h'
      · rw [if_neg hc] at h'
        simp only [List.lookup_cons, hx] at h'
        exact ih h'
/-- the names of a comprehension's block: its own (with their places in N), or captured -/
structure BlkOk (N : List Str) (sc scope : Scope) (own : List (Str × Nat)) : Prop where
  kind : scope.kind = .function
  uniq : ∀ y ∈ scope.names, scope.names.lookup y.1 = some y.2
  ix : ∀ p ∈ own, N[p.2]? = some p.1
  free : ∀ y ∈ scope.names, y.2 = .free → sc.names.lookup y.1 = some .cell ∨ sc.names.lookup y.1 = some .free
  own : ∀ y ∈ scope.names, y.2 = .local ∨ y.2 = .cell → y.1 ∈ own.map (·.1) ∨ y.1 ∉ N
/-- the slots of the block's own names forgotten -/
def wipe (σ : St) : List Nat → St
  | [] => σ
  | v :: vs => (wipe σ vs).set v none
theorem wipe_length (σ : St) : ∀ vs : List Nat, (wipe σ vs).length = σ.length
  | [] => rfl
  | v :: vs => by unfold wipe; rw [List.length_set, wipe_length σ vs]
theorem wipe_some {σ : St} {i : Nat} {x : V} : ∀ {vs : List Nat}, (wipe σ vs)[i]? = some (some x) → σ[i]? = some (some x) ∧ i ∉ vs
  | [], h => ⟨h, by simp⟩
  | v :: vs, h => by
    unfold wipe at h
    by_cases hi : v = i
    · subst hi
      by_cases hv : v < (wipe σ vs).length
      · rw [List.getElem?_set_self hv] at h; cases h
      · rw [List.getElem?_eq_none (by simpa using hv)] at h; cases h
    · rw [List.getElem?_set_ne hi] at h
      obtain ⟨h1, h2⟩ := wipe_some h
      exact ⟨h1, by simp only [List.mem_cons, not_or]; exact ⟨fun e => hi e.symm, h2⟩⟩
/-- the context of a block that starts at s, its iterator's objects at fp -/
abbrev Cx.blk (X : Cx) (s : Shared) (H : Hp) (scope : Scope) (cenv : Env) (fp : List Addr) : Cx := { X with s_0 := s, H_0 := H, env := cenv, outer := X.stack, ex := fp, fn := fun x => scope.names.lookup x == some .cell, pn := [], xe := fun _ _ => False }
section
variable {X : Cx} {pins : List (Addr × Obj)} {σ : St} {H : Hp} {s : Shared}
theorem block_start {scope : Scope} {own : List (Str × Nat)} {fp : List Addr} (I : Inv X pins σ H s) (ok : BlkOk X.N X.env.scope scope own) (hN : X.N.Nodup) (hfp : ∀ b ∈ fp, FpOk X pins H b ∧ b < s.heap.objs.size) :
    Inv (X.blk s H scope (compEnvC scope (cellsFrom (s.heap.objs.size + 1) scope.names (cloFrom X.env.cells scope.names [])) s.heap.objs.size X.env) fp) [] (wipe σ (own.map (·.2))) H { s with heap := pushCells (s.heap.push { cls := .type "dict", data := .dict #[] }) scope.names } := by
  have hfree : ∀ y ∈ scope.names, y.2 = .free → ∃ c, X.env.cells.lookup y.1 = some c := fun y hy e => by
    rcases ok.free y hy e with k | k
    · exact I.ok.has _ (.inl k)
    · exact I.ok.has _ (.inr k)
  generalize hcenv : compEnvC scope (cellsFrom (s.heap.objs.size + 1) scope.names (cloFrom X.env.cells scope.names [])) s.heap.objs.size X.env = cenv
  have kp : ∀ b o, s.heap.get? b = some o → (pushCells (s.heap.push { cls := .type "dict", data := .dict #[] }) scope.names).get? b = some o := fun b o e => pushCells_keeps _ _ _ _ (Heap.get?_push_of_some _ e)
  have hL : cenv.locals = s.heap.objs.size := by rw [← hcenv]; rfl
  have hcl : cenv.cells = cellsFrom (s.heap.objs.size + 1) scope.names (cloFrom X.env.cells scope.names []) := by rw [← hcenv]; rfl
  have hsc : cenv.scope = relS scope X.env.scope := by rw [← hcenv]; rfl
  rw [← Heap.size_push s.heap { cls := .type "dict", data := .dict #[] }] at hcl
  have cm : ∀ {y c}, (y, c) ∈ cloFrom X.env.cells scope.names [] → X.env.cells.lookup y = some c ∧ c < s.heap.objs.size := fun {y c} hm => by
    rcases cloFrom_mem hm with hm | ⟨h1, rfl⟩
    · cases hm
    · obtain ⟨c, hc⟩ := hfree _ h1 rfl
      rw [hc]
      obtain ⟨w, z⟩ := I.cell _ _ hc
      exact ⟨rfl, z.lt⟩
  have mem : ∀ {y c}, cenv.cells.lookup y = some c → (X.env.cells.lookup y = some c ∧ c < s.heap.objs.size) ∨ (s.heap.objs.size + 1 ≤ c ∧ CellAt (pushCells (s.heap.push { cls := .type "dict", data := .dict #[] }) scope.names) c none) := fun {y c} e => by
    rw [hcl] at e
    rcases cells_mem (PySem.mem_of_lookup e) with hm | ⟨_, h2, h3⟩
    · exact .inl (cm hm)
    · rw [Heap.size_push] at h2; exact .inr ⟨h2, h3⟩
  have look : ∀ {y}, scope.names.lookup y = some .free → ∃ c, cenv.cells.lookup y = some c ∧ X.env.cells.lookup y = some c := fun {y} hl => by
    have hy : (y, NameKind.free) ∈ scope.names := PySem.mem_of_lookup hl
    obtain ⟨c', e'⟩ := mem_lookup (cells_acc (names := scope.names) (n := (s.heap.push { cls := .type "dict", data := .dict #[] }).objs.size) (cloFrom_has (cells := X.env.cells) (acc := []) hy))
    rw [← hcl] at e'
    refine ⟨c', e', ?_⟩
    rw [hcl] at e'
    rcases cells_mem (PySem.mem_of_lookup e') with hm | ⟨h1, _, _⟩
    · exact (cm hm).1
    · have := ok.uniq _ h1
      rw [hl] at this; cases this
  have okB : (X.blk s H scope cenv fp).Ok := by
    refine ⟨I.ok.mod, by show cenv.scope.kind = _; rw [hsc]; exact ok.kind, by show cenv.globals = _; rw [← hcenv]; exact I.ok.glob, by show cenv.builtins = _; rw [← hcenv]; exact I.ok.blt, by show s.heap.objs.size ≤ cenv.locals; rw [hL]; exact Nat.le_refl _,
      fun y z c e1 e2 => ?_, fun y hy => ?_, fun y c z e => ?_, I.ok.hd, I.ok.frames, .inl rfl, fun b hb => ⟨?_, fun y c e z => ?_⟩, I.bs, Nat.le_trans I.ok.bsz I.sz, fun b o e hb => ?_, fun b hb z => ?_, I.stack, I.stkFree⟩
    · have e1 : cenv.cells.lookup y = some c := e1
      have e2 : cenv.cells.lookup z = some c := e2
      rw [hcl] at e1 e2
      refine cells_inj (fun p hp => ?_) (fun y z c a b => I.ok.inj y z c (cm a).1 (cm b).1) (PySem.mem_of_lookup e1) (PySem.mem_of_lookup e2)
      rw [Heap.size_push]
      exact Nat.lt_succ_of_lt (cm (y := p.1) (c := p.2) hp).2
    · show ∃ c, cenv.cells.lookup y = some c
      have key : ∀ k, cenv.kindOf y = some k → (k = .cell ∨ k = .free) → ∃ c, cenv.cells.lookup y = some c := fun k hk hk' => by
        unfold Env.kindOf at hk
        rw [hsc] at hk
        obtain ⟨k', e, r⟩ := lookup_relS hk
        have : k' = .cell ∨ k' = .free := by
          rcases r with rfl | ⟨rfl, _⟩
          · exact hk'
          · exact .inr rfl
        rcases this with rfl | rfl
        · obtain ⟨c, hm⟩ := cells_has (n := (s.heap.push { cls := .type "dict", data := .dict #[] }).objs.size) (acc := cloFrom X.env.cells scope.names []) (PySem.mem_of_lookup e)
          obtain ⟨c', e'⟩ := mem_lookup hm
          exact ⟨c', by rw [hcl]; exact e'⟩
        · obtain ⟨c, h1, _⟩ := look e
          exact ⟨c, h1⟩
      rcases hy with hy | hy
      · exact key _ hy (.inl rfl)
      · exact key _ hy (.inr rfl)
    · have z : (scope.names.lookup y == some NameKind.cell) = true := z
      have z : scope.names.lookup y = some .cell := by simpa using z
      have e : cenv.cells.lookup y = some c := e
      rw [hcl] at e
      rcases cells_mem (PySem.mem_of_lookup e) with hm | ⟨_, h2, _⟩
      · rcases cloFrom_mem hm with hm | ⟨h1, _⟩
        · cases hm
        · have q := ok.uniq _ h1
          rw [z] at q; cases q
      · rw [Heap.size_push] at h2
        exact Nat.le_of_succ_le h2
    · show b ≠ cenv.locals
      rw [hL]; exact Nat.ne_of_lt (hfp b hb).2
    · have e : cenv.cells.lookup y = some c := e
      rcases mem e with ⟨h1, _⟩ | ⟨h1, _⟩
      · exact (hfp b hb).1.2.2.2.2.1 y c h1 z
      · have h2 : s.heap.objs.size + 1 ≤ b := by rw [← z]; exact h1
        exact absurd (Nat.lt_of_lt_of_le (hfp b hb).2 (Nat.le_of_succ_le h2)) (Nat.lt_irrefl _)
    · rcases (hfp b hb).1.2.2.2.1 with z | z
      · exact I.ok.noex b o e z
      · exact absurd (Nat.lt_of_lt_of_le (Heap.lt_size e) (Nat.le_trans I.ok.bsz z)) (Nat.lt_irrefl _)
    · rcases List.mem_cons.mp (I.stkSub b z) with z | z
      · exact (hfp b hb).1.2.1 z
      · exact (hfp b hb).1.2.2.1 z
  refine ⟨okB, rfl, I.bare, Un.kept kp, ⟨fun _ => none, ?_, fun i y av e1 e2 e3 => ?_⟩, fun y c e => ?_, ?_, fun y c e => ?_, fun p hp => ?_, I.hok.kept kp, by rw [wipe_length]; exact I.len⟩
  · show Heap.Ns _ cenv.locals _
    rw [hL]
    exact Heap.Ns.keeps (Heap.Ns.new ..) fun b o e => pushCells_keeps _ _ _ _ e
  · obtain ⟨e2, hne⟩ := wipe_some e2
    have hfr : scope.names.lookup y = some .free ∧ (cenv.kindOf y = some .cell ∨ cenv.kindOf y = some .free) := by
      have key : ∀ k, cenv.scope.names.lookup y = some k → k = .local ∨ k = .cell ∨ k = .free → scope.names.lookup y = some .free ∧ (cenv.kindOf y = some .cell ∨ cenv.kindOf y = some .free) := fun k hk hk' => by
        have hk0 := hk
        rw [hsc] at hk
        obtain ⟨k', e, r⟩ := lookup_relS hk
        have no : ¬ (k' = .local ∨ k' = .cell) := fun hh => by
          rcases ok.own _ (PySem.mem_of_lookup e) hh with e' | e'
          · obtain ⟨p, hp, hpy⟩ := List.mem_map.mp e'
            have e3 := ok.ix p hp
            have : p.1 = y := hpy
            rw [this] at e3
            exact hne (List.mem_map.mpr ⟨p, hp, nodup_ix hN e3 e1⟩)
          · exact e' (List.mem_of_getElem? e1)
        rcases r with rfl | ⟨rfl, rfl⟩
        · rcases hk' with rfl | rfl | rfl
          · exact absurd (.inl rfl) no
          · exact absurd (.inr rfl) no
          · exact ⟨e, .inr hk0⟩
        · exact ⟨e, .inl hk0⟩
      have e3 : Vis cenv.scope y := e3
      rcases e3 with e3 | e3 | e3
      · exact key _ e3 (.inl rfl)
      · exact key _ e3 (.inr (.inl rfl))
      · exact key _ e3 (.inr (.inr rfl))
    obtain ⟨m, hn, hl⟩ := I.loc
    have hvis : Vis X.env.scope y := (ok.free _ (PySem.mem_of_lookup hfr.1) rfl).elim (fun k => .inr (.inl k)) (fun k => .inr (.inr k))
    obtain ⟨w, r, q⟩ := hl i y av e1 e2 hvis
    refine ⟨w, r, .inr ⟨hfr.2, ?_⟩⟩
    obtain ⟨c, h1, h2⟩ := look hfr.1
    rcases q with ⟨k, _⟩ | ⟨_, c', e', z⟩
    · have k : X.env.scope.names.lookup y = some .local := k
      rcases ok.free _ (PySem.mem_of_lookup hfr.1) rfl with k' | k' <;> rw [show X.env.scope.names.lookup y = _ from k'] at k <;> cases k
    · rw [h2] at e'; cases e'
      exact ⟨c, h1, z.keeps kp⟩
  · have e : cenv.cells.lookup y = some c := e
    rcases mem e with ⟨h1, _⟩ | ⟨_, z⟩
    · obtain ⟨w, z⟩ := I.cell y c h1
      exact ⟨w, z.keeps kp⟩
    · exact ⟨_, z⟩
  · show H cenv.locals = none
    rw [hL]; exact I.hok.fresh (Nat.le_refl _)
  · have e : cenv.cells.lookup y = some c := e
    rcases mem e with ⟨h1, _⟩ | ⟨h1, _⟩
    · exact I.freeC y c h1
    · exact I.hok.fresh (Nat.le_of_succ_le h1)
  · exact absurd (show p ∈ ([] : List (Addr × Obj)) ++ [] from hp) (by simp)
/-- an item appended to a tracked list -/
theorem app_ok {E : Value → Shared → Prop} {D : Addr} {xs : List V} {y : V} {v : Value} {Q : Value → Shared → Prop} (I : Inv X pins σ H s) (hD : H D = some (.lst xs)) (hz : xs.length < sizeLine) (r : RelV y v)
    (h : ∀ s', Inv X pins σ (upd H D (.lst (xs ++ [y]))) s' → Q .none s') : wpAny (model X.prog X.w) X.A (call (.builtin "list.append") [.ref D, v]) Q E s := by
  obtain ⟨hz', its, n, ri, e⟩ := I.hok D _ hD
  have hl := ri.length
  refine append_at (hsz := by rw [List.size_toArray]; omega) e fun h' sb ho' => ?_
  refine h { s with heap := h' } (I.write (t' := s.toks) (by rw [hD]; trivial) (.inl rfl) (fun b u hb q => (sb.2 b hb).trans q) ⟨_, ho'⟩ ⟨by rw [List.length_append]; exact hz, its ++ [v], n + 1, ri.append (.cons r .nil), ?_⟩)
  rw [ho']
  simp
/-- a clause's tests -/
def PTs (X : Cx) (ifs : List Expr) (t : TT) : Prop :=
  ∀ (pins : List (Addr × Obj)) (s : Shared) (σ : St) (H : Hp) (Q : Bool → Hp → Prop), Inv X pins σ H s → t σ H Q →
    wpAny (model X.prog X.w) X.A (forIn ifs true fun c r => if r = true then do let ok ← isTrue c X.env (eval c X.env); pure (ForInStep.yield ok) else pure (ForInStep.yield r)) (TP X pins σ Q) X.xe s
def tYes : TT := fun _ H Q => Q true H
theorem pts_nil : PTs X [] tYes := fun _ _ _ H _ I h => wpAny_tests_nil ⟨H, I, h⟩
end
theorem thnF {α : Type} {t : Sem α} {Q Q' : α → Shared → Prop} {M : Model} {A : Around} {E : Value → Shared → Prop} {s : Shared} (h : wpAny M A t Q (fun _ _ => False) s) (hQ : ∀ a s, Q a s → Q' a s) : wpAny M A t Q' E s := wpAny_mono h hQ fun _ _ z => False.elim z
/-- the loop of a list comprehension's block, the target of any form (codeAny_compLoop_tests asks a target that no tuple goes to; statement and proof follow it, PyProof/CompMap.lean:41-61, with the step letOwnedTupleGo kept) -/
theorem compLoop_any {prog : Program} {w : World} {A : Around} {R : Result → Shared → Prop} {s : Shared} {elt target iter : Expr} {ifs : List Expr} {scope : Scope} {pos : Pos} {it acc : Value} {env : Env} (I : Nat → Shared → Prop)
    (turn : ∀ n s, I n s → wpAny (model prog w) A (pyNext it) (fun r s₁ => match r with
      | none => R (.ok .next) s₁
      | some v => wpAny (model prog w) A (letOwnedTupleGo target it v) (fun _ s₁' => wpAny (model prog w) A (assign target env v) (fun _ s₂ =>
          wpAny (model prog w) A (forIn ifs true fun c r => if r = true then do let ok ← isTrue c env (eval c env); pure (ForInStep.yield ok) else pure (ForInStep.yield r)) (fun ok s₃ =>
            if ok = true then wpAny (model prog w) A (eval elt env) (fun x s₄ =>
              wpAny (model prog w) A (call (.builtin "list.append") [acc, x]) (fun _ s₅ => ∃ m, m < n ∧ I m s₅) (notedBy (model prog w) A env fun e s' => R (.error e) s') s₄) (notedBy (model prog w) A env fun e s' => R (.error e) s') s₃
            else ∃ m, m < n ∧ I m s₃) (notedBy (model prog w) A env fun e s' => R (.error e) s') s₂) (notedBy (model prog w) A env fun e s' => R (.error e) s') s₁') (notedBy (model prog w) A env fun e s' => R (.error e) s') s₁) (notedBy (model prog w) A env fun e s' => R (.error e) s') s)
    (n : Nat) (h : I n s) :
    codeAny (model prog w) A (.compLoop (.ListComp elt [⟨target, iter, ifs, 0⟩] scope pos) 0 it acc env) R s := by
  refine codeAny_loop rfl I (fun n s hI => ?_) n h
  show wpAny _ A ((compTurn (.ListComp elt [⟨target, iter, ifs, 0⟩] scope pos) 0 it acc env).onRaise (fun x => do noteFrame x env; theTreesLotGoes x)) _ _ s
  refine wpAny_noted ?_
  rw [compTurn_list]
  refine wpAny_bind (wpAny_standAt (wpAny_bind (wpAny_mono (turn n s hI) (fun r s₁ h₁ => ?_) fun _ _ h' => h')))
  cases r with
  | none => exact wpAny_pure h₁
  | some v =>
    refine wpAny_bind (wpAny_mono h₁ (fun _ s₁' h₁' => ?_) fun _ _ h' => h')
    refine wpAny_bind (wpAny_mono h₁' (fun _ s₂ h₂ => wpAny_bind (wpAny_mono h₂ (fun ok s₃ h₃ => ?_) fun _ _ h' => h')) fun _ _ h' => h')
    cases ok with
    | false => exact wpAny_pure ⟨rfl, h₃⟩
    | true =>
      exact wpAny_bind (wpAny_bind (wpAny_mono h₃ (fun x s₄ h₄ => wpAny_bind (wpAny_mono h₄ (fun _ s₅ h₅ => wpAny_pure (wpAny_pure ⟨rfl, h₅⟩)) fun _ _ h' => h')) fun _ _ h' => h'))
section
variable {X : Cx}
/-- [elt for target in iter if ..]: D the new list; W by the turn and a measure, Nx what a turn is to reach -/
def tLc (wi : TI) (g : TG) (tt : TT) (te : TE) (vs : List Nat) : TE := fun σ H Q => wi σ H fun J H1 => ∀ D, H1 D = none → ∃ W : Nat → Nat → Hp → Prop, (∃ m, W 0 m (upd H1 D (.lst []))) ∧ ∀ i m H, W i m H →
  (J.stop i H ∧ Q (.ref D) H) ∨ (J.go i H ∧ ∃ Nx : Hp → Prop, (∀ H', Nx H' → ∃ m', m' < m ∧ W (i + 1) m' H') ∧ ∀ x H', J.yld i H x H' → g x (wipe σ vs) H' fun σ2 H2 => wipe σ2 vs = wipe σ vs ∧ tt σ2 H2 fun b H3 =>
    if b = true then te σ2 H3 fun y H4 => ∃ acc, H4 D = some (.lst acc) ∧ acc.length < sizeLine ∧ Nx (upd H4 D (.lst (acc ++ [y]))) else Nx H3)
theorem lc_core {pins : List (Addr × Obj)} {s : Shared} {σ : St} {H : Hp} {Q : VK} {elt tg iter : Expr} {ifs : List Expr} {scope : Scope} {own : List (Str × Nat)} {pos pos' : Pos} {wi : TI} {g : TG} {tt : TT} {te : TE} {use : Option (Value → Sem Unit)} {Qf : Value → Shared → Prop}
    (hc : X.calm = true) (hN : X.N.Nodup) (I : Inv X pins σ H s) (hi : PI X tg iter wi) (ok : BlkOk X.N X.env.scope scope own)
    (hg : ∀ (s : Shared) (H : Hp) (C : Addr) (cl : List (Str × Addr)) (fp : List Addr), PG (X.blk s H scope (compEnvC scope cl C X.env) fp) tg g) (ht : ∀ (s : Shared) (H : Hp) (C : Addr) (cl : List (Str × Addr)) (fp : List Addr), PTs (X.blk s H scope (compEnvC scope cl C X.env) fp) ifs tt)
    (he : ∀ (s : Shared) (H : Hp) (C : Addr) (cl : List (Str × Addr)) (fp : List Addr), PE (X.blk s H scope (compEnvC scope cl C X.env) fp) elt te) (hs : ∀ x, foldedSetIterable iter X.env x = pure x)
    (h : tLc wi g tt te (own.map (·.2)) σ H Q)
    (hRR : ∀ D C s' m H', Inv X pins σ H' s' → Q (.ref D) H' → s'.heap.Ns C m → FpOk X pins H' C → compPost (model X.prog X.w) X.A X.xe use Qf (.ref D) C (.ok .next) s') :
    wpAny (model X.prog X.w) X.A (comprehension (.ListComp elt [⟨tg, iter, ifs, 0⟩] scope pos) scope X.env pos' (newList []) false (eval iter X.env) use) Qf X.xe s := by
  have hfree : ∀ y ∈ scope.names, y.2 = .free → ∃ c, X.env.cells.lookup y.1 = some c := fun y hy e => by
    rcases ok.free y hy e with k | k
    · exact I.ok.has _ (.inl k)
    · exact I.ok.has _ (.inr k)
  refine wpAny_comprehension_free (use := use) rfl hs (closure_ok hfree) ok.kind (fun y hy e => by rw [ok.uniq y hy, e])
    (thn (hi pins s σ H _ I h) fun xv s1 hx => thn hx fun itv s2 h2 => ?_)
  obtain ⟨it, fp, tn, J, H2, e, I2, T, st2, f2, q⟩ := h2
  subst e
  refine wpAny_newObj_type (newEnv_comp ?_) (by show 0 ≤ sizeLine; decide)
  generalize hD : s2.heap.objs.size = D
  have hDn : H2 D = none := I2.hok.fresh (Nat.le_of_eq hD)
  obtain ⟨W, ⟨m0, w0⟩, turn⟩ := q D hDn
  -- the new list
  generalize hs3 : ({ s2 with heap := s2.heap.push { cls := .type "list", data := .seq ([] : List Value).toArray } } : Shared) = s3
  have I3 : Inv X pins σ (upd H2 D (.lst [])) s3 := by
    rw [← hs3]
    refine I2.laid (t' := s2.toks) (fun b o e => Heap.get?_push_of_some _ e) (Nat.le_of_eq hD) ⟨Nat.zero_le _, [], 0, .nil, ?_⟩
    rw [← hD]
    exact Heap.get?_push_size _ rfl
  have h3 : s3.heap = s2.heap.push { cls := .type "list", data := .seq ([] : List Value).toArray } := by rw [← hs3]
  have sz : ∀ b ∈ fp, b < s2.heap.objs.size := fun b hb => by
    obtain ⟨o, e, _⟩ := T.obj _ _ st2 b hb
    exact Heap.lt_size e
  have f3 : ∀ b ∈ fp, FpOk X pins (upd H2 D (.lst [])) b ∧ b < s3.heap.objs.size := fun b hb => by
    have hlt := sz b hb
    refine ⟨⟨?_, (f2 b hb).2⟩, by rw [h3, Heap.size_push]; exact Nat.lt_succ_of_lt hlt⟩
    rw [upd_ne (by rw [← hD]; exact Nat.ne_of_lt hlt)]
    exact (f2 b hb).1
  have st3 : tn 0 s3.heap := T.keep _ _ _ st2 fun b _ o e => by rw [h3]; exact Heap.get?_push_of_some _ e
  have I4 := block_start I3 ok hN f3
  have pg := hg s3 (upd H2 D (.lst [])) s3.heap.objs.size (cellsFrom (s3.heap.objs.size + 1) scope.names (cloFrom X.env.cells scope.names [])) fp
  have pt := ht s3 (upd H2 D (.lst [])) s3.heap.objs.size (cellsFrom (s3.heap.objs.size + 1) scope.names (cloFrom X.env.cells scope.names [])) fp
  have pe := he s3 (upd H2 D (.lst [])) s3.heap.objs.size (cellsFrom (s3.heap.objs.size + 1) scope.names (cloFrom X.env.cells scope.names [])) fp
  show codeAny _ _ (.compStart (.ListComp elt [⟨tg, iter, ifs, 0⟩] scope pos) 0 (.ref it) (.ref D) (compEnvC scope (cellsFrom (s3.heap.objs.size + 1) scope.names (cloFrom X.env.cells scope.names [])) s3.heap.objs.size X.env)) (compPost (model X.prog X.w) X.A X.xe use Qf (.ref D) s3.heap.objs.size) { s3 with heap := pushCells (s3.heap.push { cls := .type "dict", data := .dict #[] }) scope.names }
  have nfp : ∀ b ∈ fp, (upd H2 D (.lst [])) b = none := fun b hb => (f3 b hb).1.1
  generalize hce : compEnvC scope (cellsFrom (s3.heap.objs.size + 1) scope.names (cloFrom X.env.cells scope.names [])) s3.heap.objs.size X.env = ce at I4 pg pt pe ⊢
  have cL : ce.locals = s3.heap.objs.size := by subst hce; rfl
  generalize hH3 : upd H2 D (.lst []) = H3 at I3 I4 pg pt pe w0 nfp f3
  generalize hs4 : ({ s3 with heap := pushCells (s3.heap.push { cls := .type "dict", data := .dict #[] }) scope.names } : Shared) = s4 at I4 ⊢
  have st4 : tn 0 s4.heap := T.keep _ _ _ st3 fun b _ o e => by rw [← hs4]; exact pushCells_keeps _ _ _ _ (Heap.get?_push_of_some _ e)
  have stat : ∀ {σ' : St} {H' : Hp} {s' : Shared}, Inv (X.blk s3 H3 scope ce fp) [] σ' H' s' → (∀ b ∈ fp, H' b = none) → ∀ b ∈ fp, FpOk (X.blk s3 H3 scope ce fp) [] H' b := fun {σ' H' s'} I' hn b hb =>
    ⟨hn b hb, (I'.ok.exf b hb).1, I'.ok.exfs b hb, .inl hb, fun x c e => (I'.ok.exf b hb).2 x c e, fun p hp => absurd (show p ∈ ([] : List (Addr × Obj)) ++ [] from hp) (by simp)⟩
  have loop : codeAny (model X.prog X.w) X.A (.compLoop (.ListComp elt [⟨tg, iter, ifs, 0⟩] scope pos) 0 (.ref it) (.ref D) ce) (compPost (model X.prog X.w) X.A X.xe use Qf (.ref D) s3.heap.objs.size) s4 := by
    refine compLoop_any (fun n s' => ∃ i H', Inv (X.blk s3 H3 scope ce fp) [] (wipe σ (own.map (·.2))) H' s' ∧ tn i s'.heap ∧ (∀ b ∈ fp, H' b = none) ∧ W i n H') ?_ m0 ⟨0, H3, I4, st4, nfp, w0⟩
    rintro n s5 ⟨i, H5, I5, st5, n5, w5⟩
    rcases turn i n H5 w5 with ⟨stop, qq⟩ | ⟨go, Nx, hNx, step⟩
    · have td := T.done (X.blk s3 H3 scope ce fp) rfl rfl rfl hc i [] s5 _ H5 (fun _ _ => False) I5 (stat I5 n5) st5 stop
      refine thnF td fun r s6 ⟨hr, I6⟩ => ?_
      subst hr
      -- back in the def's context
      have I7 : Inv X pins σ H5 s6 := I3.call' (ch := fp) I6.os I6.base I6.hok I6.bare fun b hb => ⟨(f3 b hb).1.2.2.2.1, (f3 b hb).1.2.1, (f3 b hb).1.2.2.2.2.1, (f3 b hb).1.2.2.2.2.2⟩
      have nC : H5 s3.heap.objs.size = none := by
        have z : H5 ce.locals = none := I6.free
        rw [cL] at z
        exact z
      obtain ⟨m, hn, _⟩ := I6.loc
      have hn : s6.heap.Ns ce.locals m := hn
      rw [cL] at hn
      exact hRR D s3.heap.objs.size s6 m H5 I7 qq hn (I3.fpOk (Nat.le_refl _) nC)
    · have ti := T.item (X.blk s3 H3 scope ce fp) rfl rfl rfl hc i [] s5 _ H5 (fun _ _ => False) I5 (stat I5 n5) st5 go
      refine thnF ti fun r s6 ⟨u, hr, h6⟩ => ?_
      subst hr
      refine thnF h6 fun _ s7 ⟨x, H7, I7, r7, y7, st7, n7⟩ => ?_
      have I7' := I7.pinned (stat I7 n7) (T.obj _ _ st7)
      refine thnF (pg _ s7 _ H7 x u _ I7' r7 (step x H7 y7)) fun _ s8 ⟨σ8, H8, I8, hw8, q8⟩ => ?_
      refine thnF (pt _ s8 σ8 H8 _ I8 q8) fun b s9 ⟨H9, I9, q9⟩ => ?_
      -- the turn's end
      have fin : ∀ {s' : Shared} {H' : Hp}, Inv (X.blk s3 H3 scope ce fp) ([] ++ pinsAt fp s7.heap) σ8 H' s' → Nx H' → ∃ m, m < n ∧ ∃ i H', Inv (X.blk s3 H3 scope ce fp) [] (wipe σ (own.map (·.2))) H' s' ∧ tn i s'.heap ∧ (∀ b ∈ fp, H' b = none) ∧ W i m H' := fun {s' H'} I' nx => by
        obtain ⟨m', hm, w'⟩ := hNx H' nx
        have pin' : ∀ b ∈ fp, ∀ o, s7.heap.get? b = some o → s'.heap.get? b = some o ∧ H' b = none := fun b hb o e =>
          let z := I'.pin (b, o) (List.mem_append_right _ (List.mem_append_right _ (mem_pinsAt hb e)))
          ⟨z.1, z.2.1⟩
        have hl : (wipe σ (own.map (·.2))).length = σ8.length := by rw [← hw8, wipe_length]
        refine ⟨m', hm, i + 1, H', (I'.unpinned (pins := [])).weak hl (fun j v e => ?_), T.keep _ _ _ st7 fun b hb o e => (pin' b hb o e).1, fun b hb => ?_, w'⟩
        · rw [← hw8] at e
          exact (wipe_some e).1
        · obtain ⟨o, e, _⟩ := T.obj _ _ st7 b hb
          exact (pin' b hb o e).2
      cases b with
      | false =>
        simp only [Bool.false_eq_true, if_false] at q9 ⊢
        exact fin I9 q9
      | true =>
        simp only [if_true] at q9 ⊢
        refine thnF (pe _ s9 σ8 H9 _ I9 q9) fun z s10 ⟨yv, H10, I10, r10, acc, hD10, hz10, nx⟩ => ?_
        exact app_ok (X := X.blk s3 H3 scope ce fp) I10 hD10 hz10 r10 fun s11 I11 => fin I11 nx
  exact codeAny_compStart_list loop (T.self X.A 0 _ _ _ st4 loop)
/-- as a value -/
theorem pe_lc {elt tg iter : Expr} {ifs : List Expr} {scope : Scope} {own : List (Str × Nat)} {pos : Pos} {wi : TI} {g : TG} {tt : TT} {te : TE} (hc : X.calm = true) (hN : X.N.Nodup) (hi : PI X tg iter wi) (ok : BlkOk X.N X.env.scope scope own)
    (hg : ∀ (s : Shared) (H : Hp) (C : Addr) (cl : List (Str × Addr)) (fp : List Addr), PG (X.blk s H scope (compEnvC scope cl C X.env) fp) tg g) (ht : ∀ (s : Shared) (H : Hp) (C : Addr) (cl : List (Str × Addr)) (fp : List Addr), PTs (X.blk s H scope (compEnvC scope cl C X.env) fp) ifs tt)
    (he : ∀ (s : Shared) (H : Hp) (C : Addr) (cl : List (Str × Addr)) (fp : List Addr), PE (X.blk s H scope (compEnvC scope cl C X.env) fp) elt te) (hs : ∀ x, foldedSetIterable iter X.env x = pure x := by intro _; rfl) :
    PE X (.ListComp elt [⟨tg, iter, ifs, 0⟩] scope pos) (tLc wi g tt te (own.map (·.2))) := by
  intro pins s σ H Q I h
  rw [eval_ListComp]
  refine lc_core hc hN I hi ok hg ht he hs h fun D C s' m H' I' q hn f => ⟨m, hn, fun h'' sb => ?_⟩
  obtain ⟨f0, f1, f2, f3, f4, f5⟩ := f
  exact ⟨.ref D, H', I'.turned (t' := s'.toks) (fun b o hb e => (sb.2 b hb).trans e) f0 f1 f3 f4 f5, rfl, q⟩
end
/-! ### the forms one uses -/
/-- over a list that the block leaves as it is -/
theorem lc_list {K : PySem.W.Frag} {a : Addr} {xs : List V} {g : TG} {tt : TT} {te : TE} {vs : List Nat} {σ : St} {H1 : Hp} {D : Addr} {Qd : Hp → Prop} (Pv : Nat → Hp → Prop) (h0 : Pv 0 (upd H1 D (.lst []))) (hl : ∀ i H, i ≤ xs.length → Pv i H → SqL K H a xs)
    (hs : ∀ i x H, xs[i]? = some x → Pv i H → g x (wipe σ vs) H fun σ2 H2 => wipe σ2 vs = wipe σ vs ∧ tt σ2 H2 fun b H3 =>
      if b = true then te σ2 H3 fun y H4 => ∃ acc, H4 D = some (.lst acc) ∧ acc.length < sizeLine ∧ Pv (i + 1) (upd H4 D (.lst (acc ++ [y]))) else Pv (i + 1) H3) (hd : ∀ H, Pv xs.length H → Qd H) :
    ∃ W : Nat → Nat → Hp → Prop, (∃ m, W 0 m (upd H1 D (.lst []))) ∧ ∀ i m H, W i m H →
      ((Itl K a).stop i H ∧ Qd H) ∨ ((Itl K a).go i H ∧ ∃ Nx : Hp → Prop, (∀ H', Nx H' → ∃ m', m' < m ∧ W (i + 1) m' H') ∧ ∀ x H', (Itl K a).yld i H x H' → g x (wipe σ vs) H' fun σ2 H2 => wipe σ2 vs = wipe σ vs ∧ tt σ2 H2 fun b H3 =>
        if b = true then te σ2 H3 fun y H4 => ∃ acc, H4 D = some (.lst acc) ∧ acc.length < sizeLine ∧ Nx (upd H4 D (.lst (acc ++ [y]))) else Nx H3) := by
  refine ⟨fun i m H => m = xs.length - i ∧ i ≤ xs.length ∧ Pv i H, ⟨xs.length, by simp, Nat.zero_le _, h0⟩, ?_⟩
  rintro i m H ⟨rfl, hi, p⟩
  have q := hl i H hi p
  by_cases hlt : i < xs.length
  · refine .inr ⟨⟨xs, xs[i], q, by simp [hlt]⟩, Pv (i + 1), fun H' p' => ⟨xs.length - (i + 1), by omega, rfl, hlt, p'⟩, fun x H' y => ?_⟩
    obtain ⟨e, y⟩ := y
    subst e
    exact hs i x _ (y xs q) p
  · have e : i = xs.length := by omega
    subst e
    exact .inl ⟨⟨xs, q, Nat.le_refl _⟩, hd H p⟩
def blkC (N : List Str) (sc scope : Scope) (own : List (Str × Nat)) : Bool :=
  (match scope.kind with | .function => true | _ => false) && (scope.names.all fun y => decide (scope.names.lookup y.1 = some y.2)) && (own.all fun p => decide (N[p.2]? = some p.1)) &&
    (scope.names.all fun y => match y.2 with
      | .free => (match sc.names.lookup y.1 with | some .cell => true | some .free => true | _ => false)
      | .local => decide (y.1 ∈ own.map (·.1)) || decide (y.1 ∉ N)
      | .cell => decide (y.1 ∈ own.map (·.1)) || decide (y.1 ∉ N)
      | _ => true)
theorem blkOk_by {N : List Str} {sc scope : Scope} {own : List (Str × Nat)} (h : blkC N sc scope own = true) : BlkOk N sc scope own := by
  unfold blkC at h
  simp only [Bool.and_eq_true, List.all_eq_true, decide_eq_true_eq] at h
  obtain ⟨⟨⟨h1, h2⟩, h3⟩, h4⟩ := h
  refine ⟨?_, h2, h3, fun y hy e => ?_, fun y hy e => ?_⟩
  · split at h1
    · assumption
    · cases h1
  · have q := h4 y hy
    simp only [e] at q
    split at q <;> first | exact .inl (by assumption) | exact .inr (by assumption) | cases q
  · have q := h4 y hy
    rcases e with e | e <;> (simp only [e, Bool.or_eq_true, decide_eq_true_eq] at q; exact q)
end L2
namespace L2
open PySem PySem.Spec PyProof.Rows
/-! ### lists of pairs as tables -/
/-! ### a tracked dict, its keys ints and texts or tuples of these -/
/-! ### readings and rules -/
/-- the element of a subscription, not a slice -/
def NoSl (i : Expr) : Prop := ∀ ov iv, subscripted i false ov iv = operate [ov, iv] (getItem ov iv)
theorem subD_of {prog : Program} {w : World} {A : Around} {E : Value → Shared → Prop} {s : Shared} {env : Env} {value slice : Expr} {pos : Pos} {T id : String} {Q : Value → Shared → Prop}
    (hl : typeLookup (.type T) "__getitem__" = pure (some (.builtin id))) (hs : NoSl slice)
    (h : wpAny (model prog w) A (eval value env) (fun o s₁ => wpAny (model prog w) A (eval slice env) (fun i s₂ => s₂.TypeIs o T ∧ wpAny (model prog w) A (getItem o i) Q E s₂) E s₁) E s) :
    wpAny (model prog w) A (eval (.Subscript value slice pos) env) Q E s := by
  refine Subscript_ (wpAny_mono h (fun o s₁ h₁ => wpAny_mono h₁ (fun i s₂ h₂ => ?_) fun _ _ x => x) fun _ _ x => x)
  obtain ⟨hT, h₂⟩ := h₂
  unfold subscriptTail
  refine wpAny_bind ?_
  rw [getitemInPython_of_ne hT.not_modules]
  refine wpAny_bind (wpAny_specialOf hT hl ?_)
  have fin : wpAny (model prog w) A (subscripted slice false o i) (fun r s₃ => wpAny (model prog w) A (letTemporaryGo value o r >>= fun _ => pure r) Q E s₃) E s₂ := by
    rw [hs o i]
    exact wpAny_operating (wpAny_mono h₂ (fun r s₃ h₃ => wpAny_bind (wpAny_letTemporaryGo (wpAny_pure h₃))) fun _ _ x => x)
  first
    | exact wpAny_pure (wpAny_bind fin)
    | exact wpAny_bind (wpAny_pure (wpAny_bind fin))
    | exact wpAny_bind fin
/-! ### displays -/
/-! ### methods -/
/-- a method call o.m(e) of a built-in, with one argument: what must be seen of the text -/
structure M1 (X : Cx) (o : Expr) (m : Str) (apos : Pos) (e : Expr) (cpos : Pos) : Prop where
  base : attributeBase o m X.env (eval o X.env) = eval o X.env
  few : ((backTo cpos (starEach [e] X.env)).all (fun x => !x.1) && (backToKw cpos (keywordEach [] X.env)).all (fun x => x.1.isSome)
    && decide (([e] : List Expr).length + ([] : List Keyword).length + (if ([] : List Keyword).isEmpty then 0 else 1) < 30)) = true
  line : (apos.endLine == cpos.line) = true
  trees : backTo cpos (starEach [e] X.env) = [(false, eval e X.env)]
structure M2 (X : Cx) (o : Expr) (m : Str) (apos : Pos) (e f : Expr) (cpos : Pos) : Prop where
  base : attributeBase o m X.env (eval o X.env) = eval o X.env
  few : ((backTo cpos (starEach [e, f] X.env)).all (fun x => !x.1) && (backToKw cpos (keywordEach [] X.env)).all (fun x => x.1.isSome)
    && decide (([e, f] : List Expr).length + ([] : List Keyword).length + (if ([] : List Keyword).isEmpty then 0 else 1) < 30)) = true
  line : (apos.endLine == cpos.line) = true
  trees : backTo cpos (starEach [e, f] X.env) = [(false, eval e X.env), (false, eval f X.env)]
/-! ### dict(d): a copy -/
end L2
namespace L2
open PySem PySem.Spec PyProof.Rows
section
variable {X : Cx} {pins : List (Addr × Obj)} {σ : St} {H : Hp} {s : Shared} {h' : Heap}
/-- .. and one new object is laid -/
theorem Inv.turnedNew {t' : Nat} {ch : List Addr} {T : Addr} {ob : HO} (I : Inv X pins σ H s) (k : ∀ b o, b ∉ ch → s.heap.get? b = some o → h'.get? b = some o) (hf : ∀ b ∈ ch, FpOk X pins H b) (hT : s.heap.objs.size ≤ T)
    (new : ObjOk X.prog X.w (upd H T ob) h' T ob) : Inv X pins σ (upd H T ob) { s with heap := h', toks := t' } := by
  have hn : H T = none := I.hok.fresh hT
  have nit : ∀ b u, H b = some u → b ∉ ch := fun b u e z => by
    have q := (hf b z).1
    rw [q] at e; cases e
  refine I.step (g' := s.gens) (d' := s.drawn) (ch := ch) (fun b hb => ⟨(hf b hb).2.2.2.1, (hf b hb).2.1, (hf b hb).2.2.2.2.1, (hf b hb).2.2.2.2.2⟩) (fun b o _ _ hc e _ => k b o hc e) (fun b o _ _ hc e _ => ⟨o.slots, k b o hc e⟩)
    (fun b o _ e n => ?_) (fun b o hc e => ⟨o, k b o hc e⟩) (fun b xs e => ?_) (fun b o u e => ?_) (fun b ps e => ⟨#[], ?_⟩) (fun m hm => ?_) (fun b u e => ?_) I.bare
  · rw [upd_ne (Nat.ne_of_lt (Nat.lt_of_lt_of_le (Heap.lt_size e) hT))]; exact n
  · rw [upd_ne (ne_of_none e hn)]; exact e
  · rw [upd_ne (ne_of_none e hn)]; exact e
  · rw [upd_ne (ne_of_none e hn), e]; simp
  · obtain ⟨o, es, ep, ho, r⟩ := hm
    exact ⟨o, es, ep, k _ o (fun z => (hf _ z).2.1 rfl) ho, r⟩
  · by_cases hb : b = T
    · subst hb
      rw [upd_same] at e
      cases e
      exact new
    · rw [upd_ne hb] at e
      refine (I.hok b u e).stay (fun c v hc q => k c v ?_ q) (fun c q => by rw [upd_ne (ne_of_none q hn)]; exact q) fun c xs q => by rw [upd_ne (ne_of_none q hn)]; exact q
      rcases hc with z | z
      · rw [z]; exact nit b u e
      · exact nit c _ z
/-! ### locking a thing while a statement runs -/
end
section
variable {X : Cx}
/-! ### one iterator just laid -/
theorem pi_one {tg : Expr} {pins : List (Addr × Obj)} {σ : St} {H : Hp} {s : Shared} {R : It → Hp → Prop} {J : It} {tn : Nat → Heap → Prop} {tk : Nat} (I : Inv X pins σ H s) (o : Obj)
    (T : Turn X.prog X.w X.K tg J [s.heap.objs.size] s.heap.objs.size tn) (st : tn 0 (s.heap.push o)) (q : R J H) : PIE X pins σ tg R (.ref s.heap.objs.size) { s with heap := s.heap.push o, toks := tk } := by
  refine ⟨s.heap.objs.size, [s.heap.objs.size], tn, J, H, rfl, I.kept fun b ob e => Heap.get?_push_of_some _ e, T, st, fun b hb => ?_, q⟩
  have e : b = s.heap.objs.size := by simpa using hb
  subst e
  exact I.fpOk (Nat.le_refl _) (I.hok.fresh (Nat.le_refl _))
end
/-! ### range with a step -/
/-- lo, lo + c, .. (n of them) -/
def Itc (lo c : Int) (n : Nat) : It := ⟨fun i _ => i < n, fun i H x H' => H' = H ∧ x = .int (lo + (i : Nat) * c), fun i _ => n ≤ i⟩
theorem turn_rangeC {P : Program} {w : World} {K : PySem.W.Frag} {tg : Expr} (it : Addr) (lo c : Int) (n : Nat) : Turn P w K tg (Itc lo c n) [it] it (fun i h => IsRangeIter h it (lo + (i : Nat) * c) ((n : Int) - (i : Nat)) c) where
  mem := by simp
  obj := fun i h st b hb => by
    have e : b = it := by simpa using hb
    subst e
    exact ⟨_, st, fun v z => nomatch z⟩
  keep := fun i h h' st k => k it (by simp) _ st
  item := by
    intro X hP hw hK hc i pins s σ H E I hf st hg
    subst hP hw hK
    obtain ⟨f0, f1, f2, f3, f4, f5⟩ := hf it (by simp)
    have W := Walks.range (prog := X.prog) (w := X.w) (I.ok.hd hc) it lo c n
    refine W.item i s _ _ hg st fun v h' tk hv st' kk => ?_
    obtain ⟨t, rfl⟩ := hv
    have I1 : Inv X pins σ H { s with heap := h', toks := tk } := I.turned (fun b o hb e => kk b o (by simpa using hb) e) f0 f1 f3 f4 f5
    exact ⟨_, rfl, go_of (s := { s with heap := h', toks := tk }) (n := "range_iterator") st' rfl rfl (by decide) ⟨.int (lo + (i : Nat) * c), H, I1, ⟨t, rfl⟩, ⟨rfl, rfl⟩, st', fun b hb => (hf b hb).1⟩⟩
  done := by
    intro X hP hw hK hc i pins s σ H E I hf st hg
    subst hP hw hK
    obtain ⟨f0, f1, f2, f3, f4, f5⟩ := hf it (by simp)
    exact wpAny_pyNext_range_end (I.ok.hd hc) st (by have : n ≤ i := hg; omega) fun h' eb => ⟨rfl, I.turned (t' := s.toks) (fun b o hb e => eb b o hb e) f0 f1 f3 f4 f5⟩
  self := fun A i s Q E st h => wpAny_pyIter_rangeiter st h
/-- range(i, j, c): small bounds, n items -/
def RgC (i j c : Int) (n : Nat) : Prop := c ≠ 0 ∧ c.natAbs < 1073741824 ∧ Builtin.Range.small i j c = true ∧ Builtin.Range.rangeSize i j c = n
def iRng3 (ta : TA) : TI := fun σ H R => ta σ H fun vs H1 => ∃ (i j c : Int) (n : Nat), vs = [.int i, .int j, .int c] ∧ RgC i j c n ∧ R (Itc i c n) H1
section
variable {X : Cx} {tg : Expr}
theorem pi_range3 {a b c : Expr} {ta : TA} {p pos : Pos} (hg : Gl X "range") (hm : X.mg "range" = none) (ha : PA X [a, b, c] ta)
    (hs : starEach [a, b, c] X.env = (false, eval a X.env) :: starEach [b, c] X.env := by rfl) (hpl : (backTo pos (starEach [b, c] X.env)).any (·.1) = false := by rfl) :
    PI X tg (.Call (.Name "range" p) [a, b, c] [] pos) (iRng3 ta) := by
  intro pins s σ H R I h
  refine Call_ (ld_blt I hg hm boot_range (PyProof.Rows.callWith_type1 (thn (ha pos pins s σ H _ I h) fun us s1 ⟨vs, H1, I1, r1, q1⟩ => ?_) hs hpl))
  obtain ⟨i, j, k, n, e, ⟨c0, c1, c2, c3⟩, q⟩ := q1
  subst e
  cases r1 with
  | cons r rr =>
    cases rr with
    | cons r' rr =>
      cases rr with
      | cons r'' rr =>
        cases rr
        obtain ⟨t, rfl⟩ := r
        obtain ⟨t', rfl⟩ := r'
        obtain ⟨t'', rfl⟩ := r''
        refine call_range_3 c0 ?_ (.inl (PyProof.noPylong_small c1))
        refine wpAny_pyIter_range (IsRange.new ..) c2 ?_
        have I2 : Inv X pins σ H1 { s1 with heap := s1.heap.push { cls := .type "range", data := .fields #[.int i t, .int j t', .int k t''] } } := I1.kept (t' := s1.toks) fun b o e => Heap.get?_push_of_some _ e
        refine pi_one (tk := s1.toks) I2 _ (turn_rangeC _ i k n) ?_ q
        have e1 : i + ((0 : Nat) : Int) * k = i := by simp
        have e2 : (n : Int) - ((0 : Nat) : Int) = Builtin.Range.rangeSize i j k := by rw [c3]; simp
        show IsRangeIter _ _ (i + ((0 : Nat) : Int) * k) ((n : Int) - ((0 : Nat) : Int)) k
        rw [e1, e2]
        exact Heap.get?_push_size _ rfl
end
/-! ### reversed(list) -/
/-! ### a str -/
/-! ### a dict's keys: any dict's entries -/
/-! ### a locked dict -/
/-! ### for k in d, d.keys(), d.values(), d.items() -/
/-! ### enumerate(list) -/
/-- the list at a as it stands at each turn, each item in a new pair -/
def Ite (K : PySem.W.Frag) (a : Addr) : It :=
  ⟨fun i H => ∃ (xs : List V) (x : V), SqL K H a xs ∧ xs[i]? = some x, fun i H v H' => ∃ T x, v = .ref T ∧ H T = none ∧ H' = upd H T (.tup [.int (i : Nat), x]) ∧ ∀ xs, SqL K H a xs → xs[i]? = some x, fun i H => ∃ xs : List V, SqL K H a xs ∧ xs.length ≤ i⟩
theorem turn_enum {P : Program} {w : World} {K : PySem.W.Frag} {elts : List Expr} {kk : Nat} {tpos : Pos} (a e it : Addr) :
    Turn P w K (.Tuple elts kk tpos) (Ite K a) [e, it] e (fun i h => (∃ old, IsEnum h e it ((i : Nat) : Int) old) ∧ h.IsListIter it a i ∧ e ≠ it) where
  mem := by simp
  obj := fun i h st b hb => by
    obtain ⟨⟨old, he⟩, ⟨o, ho, hc, hd⟩, _⟩ := st
    have e' : b = e ∨ b = it := by simpa using hb
    rcases e' with z | z
    · rw [z]; exact ⟨_, he, fun v q => nomatch q⟩
    · rw [z]; exact ⟨o, ho, fun v q => by rw [hd] at q; cases q⟩
  keep := fun i h h' st k => let ⟨⟨old, he⟩, hi, hne⟩ := st; ⟨⟨old, k e (by simp) _ he⟩, hi.at fun o q => k it (by simp) o q, hne⟩
  item := by
    intro X hP hw hK hc i pins s σ H E I hf st hg
    subst hP hw hK
    obtain ⟨⟨old, he⟩, hit, hne⟩ := st
    obtain ⟨xs, x, hq, hx⟩ := hg
    obtain ⟨its, rv, p, hz⟩ := I.list hq
    obtain ⟨u, hu, ru⟩ := rv.get hx
    have hel : e < s.heap.objs.size := Heap.lt_size he
    have hil : it < s.heap.objs.size := by obtain ⟨_, q, _⟩ := hit; exact Heap.lt_size q
    refine wpAny_pyNext_enum_item he hit p.isList (x := u) (by simpa using hu) hne fun h' ho hit' hT hsz hk => ?_
    refine ⟨_, rfl, wpAny_letOwnedTupleGo_enum (s := { s with heap := h', toks := s.toks + 1 }) ho fun h'' he' sb => ?_⟩
    have hT2 : h''.get? s.heap.objs.size = some { cls := .type "tuple", data := .seq #[.int i s.toks, u] } := (sb.2 _ (Nat.ne_of_gt hel)).trans hT
    have new : ObjOk X.prog X.w (upd H s.heap.objs.size (.tup [.int (i : Nat), x])) h'' s.heap.objs.size (.tup [.int (i : Nat), x]) :=
      ⟨by show 2 ≤ sizeLine; decide, [.int i s.toks, u], .cons ⟨_, rfl⟩ (.cons ru .nil), ⟨_, hT2, rfl, _, rfl⟩⟩
    have I1 : Inv X pins σ (upd H s.heap.objs.size (.tup [.int (i : Nat), x])) { s with heap := h'', toks := s.toks + 1 } :=
      I.turnedNew (ch := [e, it]) (fun b ob hb q => (sb.2 b (fun z => hb (by simp [z]))).trans (hk b ob (fun z => hb (by simp [z])) (fun z => hb (by simp [z])) q)) hf (Nat.le_refl _) new
    refine ⟨.ref s.heap.objs.size, _, I1, rfl, ⟨_, x, rfl, I.hok.fresh (Nat.le_refl _), rfl, fun ys hy => by rw [I.list_inj hy hq]; exact hx⟩, ⟨⟨u, ?_⟩, hit'.at fun o q => (sb.2 it (Ne.symm hne)).trans q, hne⟩, fun b hb => ?_⟩
    · have e1 : ((i + 1 : Nat) : Int) = (i : Int) + 1 := by omega
      rw [e1]; exact he'
    · have hb' : b < s.heap.objs.size := by
        have e' : b = e ∨ b = it := by simpa using hb
        rcases e' with z | z
        · rw [z]; exact hel
        · rw [z]; exact hil
      rw [upd_ne (Nat.ne_of_lt hb')]
      exact (hf b hb).1
  done := by
    intro X hP hw hK hc i pins s σ H E I hf st hg
    subst hP hw hK
    obtain ⟨⟨old, he⟩, hit, hne⟩ := st
    obtain ⟨xs, hq, hx⟩ := hg
    obtain ⟨its, rv, p, hz⟩ := I.list hq
    obtain ⟨f0, f1, f2, f3, f4, f5⟩ := hf it (by simp)
    have hl := rv.length
    exact wpAny_pyNext_enum_end (I.ok.hd hc) he hit p.isList (by simp; omega) fun h' eb => ⟨rfl, I.turned (t' := s.toks) (fun b o hb q => eb b o hb q) f0 f1 f3 f4 f5⟩
  self := fun A i s Q E st h => let ⟨⟨_, he⟩, _⟩ := st; wpAny_pyIter_enum he h
def iEnum (K : PySem.W.Frag) (ta : TA) : TI := fun σ H R => ta σ H fun vs H1 => ∃ a xs, vs = [.ref a] ∧ SqL K H1 a xs ∧ R (Ite K a) H1
theorem pi_enum {X : Cx} {e : Expr} {ta : TA} {p pos tpos : Pos} {elts : List Expr} {kk : Nat} (hg : Gl X "enumerate") (hm : X.mg "enumerate" = none) (ha : PA X [e] ta) (hs : starEach [e] X.env = [(false, eval e X.env)] := by rfl) :
    PI X (.Tuple elts kk tpos) (.Call (.Name "enumerate" p) [e] [] pos) (iEnum X.K ta) := by
  intro pins s σ H R I h
  refine Call_ (ld_blt I hg hm boot_enumerate (PyProof.Rows.callWith_type1 (thn (ha pos pins s σ H _ I h) fun us s1 ⟨vs, H1, I1, r1, q1⟩ => ?_) hs rfl))
  obtain ⟨a, xs, ex, hq, q⟩ := q1
  subst ex
  cases r1 with
  | cons r rr =>
    cases rr
    cases r
    obtain ⟨its, rv, p', hz⟩ := I1.list hq
    refine call_enumerate_list p'.isList fun h' he hit hsz hk => wpAny_pyIter_enum he ?_
    have I2 : Inv X pins σ H1 { s1 with heap := h' } := I1.kept (t' := s1.toks) hk
    refine ⟨s1.heap.objs.size + 1, [s1.heap.objs.size + 1, s1.heap.objs.size], _, _, H1, rfl, I2, turn_enum a (s1.heap.objs.size + 1) s1.heap.objs.size, ⟨⟨.none, he⟩, hit, Nat.succ_ne_self _⟩, fun b hb => ?_, q⟩
    have e' : b = s1.heap.objs.size + 1 ∨ b = s1.heap.objs.size := by simpa using hb
    have hle : s1.heap.objs.size ≤ b := by
      rcases e' with z | z
      · rw [z]; exact Nat.le_add_right _ _
      · rw [z]; exact Nat.le_refl _
    exact I1.fpOk hle (I1.hok.fresh hle)
/-! ### zip(list, list) -/
end L2
section 
namespace Bits
open PySem PyProof.Rows
end Bits
end 
section 
namespace TL
open PySem PySem.Builtin PySem.Builtin.Str PySem.StrLaws
/-! ### the list functions -/
/-! ### the model's split and partition are these -/
/-! ### computing spl and par -/
/-! ### digits -/
/-! ### words: x.split() -/
end TL
end 
namespace Att
open PySem PySem.W PySem.Calls PyProof.Rows
/-! ### the script -/
/-! ### the attachment: holds_open's last premise (the goal 'hc' behind k_head) from a wpAny of the law's body -/
/-! ### rules over ANY heap (no ledger) from facts about the written part K: the library's own take a ledger (News) for what they write -/
end Att
/- THE LAST THEOREM (shape; LID, My.* are yours):
   My.Adr: a structure of the addresses that your layer names (classes, functions); My.Txt K t: a structure (Prop) of the equations over K;
   My.txt_mk : {K} {implicit addresses ..} (e1 : nsIn K mainGlobals "law" = some (some (.ref f))) (e2 : K.lookup f = some ⟨oc, od, .func (fnOf "law" "law" params body scope dV kV doc pm an cdv ct), sl⟩) (e3 : codeIn K cdv "law" = true) .. : ∃ t, My.Txt K t
set_option maxRecDepth 100000 in
set_option maxHeartbeats 0 in
theorem PySem.Challenge.cw_LID_holds : PySem.Challenge.rw_LID.Holds := by
  w_on; o_law; k_head; (case hw => w_witness2)
  k_fill
  refine L2.walk_of (l := PySem.Challenge.rw_LID) (n := 63) (k := 40) (x := "script") (CX := fun w => ..) (sp := fun _ => My.sp_law) rfl (by decide) rfl ⟨rfl, by decide, by decide⟩ (fun w h Y => PySem.W.kIn_of Y) ?F ?S ?C
  case F =>
    intro w mg fa h KX G hmg
    have T : ∃ t, My.Txt (L2.KOf KX) t := by
      dsimp only [L2.KOf]                          -- K must stand as «<heap const> w.params» for k_is
      refine' My.txt_mk ?e1 ?e2 ?e3 ..
      (case e1 => PySem.W.k_is)                    -- in the order: a name -> its address -> its object -> its parts
      (case e2 => PySem.W.k_is)
      ..
    obtain ⟨t, T⟩ := T
    have e0 := hmg.symm.trans (PySem.W.mg_of KX G T.law)
    cases e0                                       -- fa is the law's own address
    exact ⟨_, fun s u => .of_eq rfl, fun base kb nb => My.law_fn T kb nb⟩     -- if «.of_eq rfl» comes too early: refine' ⟨_, ?b, fun base kb nb => My.law_fn T kb nb⟩; exact fun s u => .of_eq rfl
  case S => exact fun w H a ns hl hO hS => ..
  case C => exact ..
(the tactic k_is has no namespace: write k_is) -/
/-! SHORT WORDS over the layer: a def of the text, its body, what a loop and a test want. -/
namespace L2
open PySem PySem.Spec PyProof.Rows
/-! ### the text by places -/
/-- the j-th statement of a class's body -/
def inClass (s : Stmt) (j : Nat) : Stmt := match s with
  | .ClassDef _ _ _ body _ _ _ _ _ _ _ => body.getD j (.Pass ⟨0, 0, 0, 0⟩)
  | _ => .Pass ⟨0, 0, 0, 0⟩
def defArgs (s : Stmt) : Arguments := match s with
  | .FunctionDef _ a _ _ _ _ _ _ _ _ => a
  | _ => { posonlyargs := [], args := [], vararg := none, kwonlyargs := [], kw_defaults := [], kwarg := none, defaults := [] }
def defBody (s : Stmt) : List Stmt := match s with
  | .FunctionDef _ _ b _ _ _ _ _ _ _ => b
  | _ => []
def defScope (s : Stmt) : Scope := match s with
  | .FunctionDef _ _ _ _ _ _ sc _ _ _ => sc
  | _ => { kind := .function, names := [], isGenerator := false, isCoroutine := false }
/-! ### no exception leaves a def -/
abbrev CX0 : CXT := fun _ _ _ _ _ _ => False
abbrev E0 : XK := fun _ _ _ => False
theorem pass0 {X : Cx} : Passes CX0 X E0 := fun _ _ _ _ _ _ _ h => h.elim
/-! ### a def (or method) of the text as it stands behind the top -/
structure Fun (K : PySem.W.Frag) (x qual : Str) (st : Stmt) (f : Addr) (fd : FuncData) : Prop where
  ex : ∃ (oc : Value) (od : Option Addr) (kV doc pm : Value) (an : Option Addr) (cdv ct : Value) (osl : Array (Option Value)),
    fd = PySem.W.fnOf x qual (defArgs st) (defBody st) (defScope st) .none kV doc pm an cdv ct ∧ K.lookup f = some ⟨oc, od, .func fd, osl⟩ ∧ PySem.W.codeIn K cdv qual = true
  kp : PySem.W.keepIn K (.ref f) = true
section
variable {P : Program} {w : World} {K : PySem.W.Frag} {mg : Str → Option Value} {base : Heap}
/-- THE RULE for a def: its body as a term of rules, and the reading of that term -/
theorem Fun.ok {x qual : Str} {st : Stmt} {f : Addr} {fd : FuncData} {N ps : List Str} {k : Nat} {sp : Sp} (F : Fun K x qual st f fd) (S : FnScope N ps (defScope st)) (len : ∀ vs H Q E, sp vs H Q E → vs.length = ps.length)
    (hbody : ∀ (cdv : Value) (A : Around) (outer : List Env) (s : Shared) (H : Hp) (vs : List V) (Q : VK) (E : XK), Room k (A.deeper (envOfC qual (defScope st) s.heap.objs.size f cdv)) → sp vs H Q E →
      ∃ t, PSs (cxOf CX0 P w K mg base N qual (defScope st) f cdv A outer s H E).nox (defBody st) t ∧ t { nx := fun _ H' => Q .non H', rt := Q } (start N vs) H) : FnOk P w K mg base CX0 (k + 1) f fd ps sp := by
  obtain ⟨oc, od, kV, doc, pm, an, cdv, ct, osl, rfl, lk, hcd⟩ := F.ex
  refine fn_of lk hcd S len fun A outer s H vs Q E hr hsp => ?_
  obtain ⟨t, h, q⟩ := hbody cdv A outer s H vs Q E hr hsp
  exact ⟨t, h.nox, q⟩
/-- how its arguments bind (no defaults): h is «fun _ _ _ _ _ _ us hl => match us, hl with | [_, _], _ => rfl», one _ a parameter -/
theorem Fun.binds {x qual : Str} {st : Stmt} {f : Addr} {fd : FuncData} {ps : List Str} (F : Fun K x qual st f fd)
    (h : ∀ (kV doc pm : Value) (an : Option Addr) (cdv ct : Value) (us : List Value), us.length = ps.length → bindArgs (PySem.W.fnOf x qual (defArgs st) (defBody st) (defScope st) .none kV doc pm an cdv ct) ⟨us, []⟩ = pure (ps.zip us)) : Binds K fd ps [] := by
  obtain ⟨oc, od, kV, doc, pm, an, cdv, ct, osl, rfl, lk, hcd⟩ := F.ex
  exact .all (h kV doc pm an cdv ct)
theorem fun_mk {x qual : Str} {st : Stmt} {f : Addr} {oc : Value} {od an : Option Addr} {osl : Array (Option Value)} {kV doc pm cdv ct : Value} (l : K.lookup f = some ⟨oc, od, .func (PySem.W.fnOf x qual (defArgs st) (defBody st) (defScope st) .none kV doc pm an cdv ct), osl⟩)
    (c : PySem.W.codeIn K cdv qual = true) (k : PySem.W.keepIn K (.ref f) = true) : Fun K x qual st f (PySem.W.fnOf x qual (defArgs st) (defBody st) (defScope st) .none kV doc pm an cdv ct) := ⟨⟨oc, od, kV, doc, pm, an, cdv, ct, osl, rfl, l, c⟩, k⟩
end
theorem small1000 {n : Nat} (h : n ≤ 1000) : n < sizeLine := Nat.lt_of_le_of_lt h (by decide)
/-! ### expressions in short: the name that stands in the i-th slot -/
section
variable {X : Cx}
theorem pv (i : Nat) {x : Str} {pos : Pos} (hN : X.N[i]? = some x := by rfl) (hv : Vis X.env.scope x := by first | exact Or.inl rfl | exact Or.inr (Or.inl rfl) | exact Or.inr (Or.inr rfl)) (hd : (x == ("__debug__" : Str)) = false := by decide)
    (hcd : (x == ("__classdict__" : Str)) = false := by decide) : PE X (.Name x pos) (tVar i) := pe_var hN hv hd hcd
end
/-! ### tests -/
theorem iteF {A B : Prop} (h : B) : if false = true then A else B := by
  rw [if_neg Bool.false_ne_true]
  exact h
theorem iteT {A B : Prop} (h : A) : if true = true then A else B := by
  rw [if_pos rfl]
  exact h
theorem ite2 {c A B : Prop} [Decidable c] (h1 : c → A) (h2 : ¬ c → B) : if c then A else B := by
  by_cases h : c
  · rw [if_pos h]
    exact h1 h
  · rw [if_neg h]
    exact h2 h
/-! ### heaps -/
/-- all that was tracked is as it was -/
def Same (H H' : Hp) : Prop := ∀ b o, H b = some o → H' b = some o
theorem Same.trans {H H1 H2 : Hp} (a : Same H H1) (b : Same H1 H2) : Same H H2 := fun c o h => b c o (a c o h)
theorem Same.free {H H' : Hp} (e : Same H H') {l : Addr} (h : H' l = Option.none) : H l = Option.none := by
  cases q : H l with
  | none => rfl
  | some o =>
    rw [e l o q] at h
    cases h
theorem Same.seq {K : PySem.W.Frag} {H H' : Hp} {a : Addr} {xs : List V} (e : Same H H') (h : SqL K H a xs) : SqL K H' a xs := by
  rcases h with (h | ⟨o, h⟩) | h
  · exact .inl (.inl (e _ _ h))
  · exact .inl (.inr ⟨o, e _ _ h⟩)
  · exact .inr h
/-! ### a dict's pairs: keys that differ -/
/-! ### lists -/
theorem at_of {xs : List V} {z : Int} {j : Nat} {v : V} (e : z = (j : Int)) (h : xs[j]? = some v) : atI xs z = some v := by
  rw [e]
  exact atI_nat h
/-- a new instance and its __init__ leave all that was tracked as it was -/
theorem Same.made {H H1 : Hp} {x dx C : Addr} (nx : H x = Option.none) (nd : H dx = Option.none) (k : ∀ b o, (upd (upd H dx (.own x)) x (.ins C dx [])) b = some o → b ≠ x → H1 b = some o) : Same H H1 := fun b o e =>
  k b o (by rw [upd_ne (ne_of_none e nx), upd_ne (ne_of_none e nd)]; exact e) (ne_of_none e nx)
end L2
set_option Elab.async false
set_option linter.all false
set_option maxRecDepth 100000
section
set_option Elab.async false
set_option linter.all false
set_option maxRecDepth 100000
set_option maxHeartbeats 2000000
namespace L2
open PySem PySem.Spec PyProof.Rows
open PySem.W (WData Codec OpenSpec Well WellAll ReadsW ReadsAllW)
/-! ### an answer as data -/
mutual
/-- x stands for the datum d, lists and tuples all the way -/
inductive Dw (K : PySem.W.Frag) (H : Hp) : V → WData → Prop
  | non : Dw K H .non .none
  | bl (b : Bool) : Dw K H (.bl b) (.bool b)
  | int (i : Int) : Dw K H (.int i) (.int i)
  | str (x : Str) : Dw K H (.str x) (.str x)
  | byt (b : Array UInt8) : Dw K H (.byt b) (.bytes b.toList)
  | lst {a : Addr} {xs : List V} {ds : List WData} : SqL K H a xs → DwAll K H xs ds → Dw K H (.ref a) (.list ds)
  | tup {a : Addr} {xs : List V} {ds : List WData} : SqT K H a xs → DwAll K H xs ds → Dw K H (.ref a) (.tuple ds)
inductive DwAll (K : PySem.W.Frag) (H : Hp) : List V → List WData → Prop
  | nil : DwAll K H [] []
  | cons {v : V} {vs : List V} {d : WData} {ds : List WData} : Dw K H v d → DwAll K H vs ds → DwAll K H (v :: vs) (d :: ds)
end
theorem dw_ints {K : PySem.W.Frag} {H : Hp} : ∀ ns : List Int, DwAll K H (ns.map V.int) (ns.map WData.int)
  | [] => .nil
  | n :: r => .cons (.int n) (dw_ints r)
theorem ints_dw {K : PySem.W.Frag} {H : Hp} : ∀ (ns : List Int) (xs : List V), DwAll K H xs (ns.map WData.int) → xs = ns.map V.int
  | [], xs, h => by
    cases h
    rfl
  | n :: r, xs, h => by
    cases h with
    | cons h1 h2 =>
      cases h1
      rw [ints_dw r _ h2] <;> rfl
section
variable {P : Program} {w : World} {K : PySem.W.Frag} {H : Hp} {h : Heap} {R : PySem.W.WRecords} {cl : Str → Option Addr}
theorem sqL_at {a : Addr} {xs : List V} (hok : HOk P w H h) (KX : K.In h) (q : SqL K H a xs) : ∃ (its : List Value) (o : Obj) (n : Nat), Vals xs its ∧ h.get? a = some o ∧ o.cls = .type "list" ∧ o.data = .seq its.toArray n := by
  rcases q with q | ⟨o, its, n, e, hc, _, hd, _, hv⟩
  · obtain ⟨_, its, n, hv, e⟩ := (show ObjOk P w H h a (.lst xs) from q.ok hok)
    exact ⟨its, _, n, hv, e, rfl, rfl⟩
  · exact ⟨its.toList, o, n, hv, KX _ _ e, hc, by simp [hd]⟩
theorem sqT_at {a : Addr} {xs : List V} (hok : HOk P w H h) (KX : K.In h) (q : SqT K H a xs) : ∃ (its : List Value) (o : Obj) (n : Nat), Vals xs its ∧ h.get? a = some o ∧ o.cls = .type "tuple" ∧ o.data = .seq its.toArray n := by
  rcases q with q | ⟨o, its, n, e, hc, hd, _, hv⟩
  · obtain ⟨_, its, hv, o, e, hc, n, hd⟩ := (show ObjOk P w H h a (.tup xs) from q.ok hok)
    exact ⟨its, o, n, hv, e, hc, hd⟩
  · exact ⟨its.toList, o, n, hv, KX _ _ e, hc, by simp [hd]⟩
mutual
theorem Dw.reads (hok : HOk P w H h) (KX : K.In h) : ∀ (d : WData) (v : V) (u : Value), Dw K H v d → RelV v u → ∃ as, ReadsW R cl h u d as
  | .none, _, _, x, r => by
    cases x
    cases r
    exact ⟨_, ReadsW.none⟩
  | .bool b, _, _, x, r => by
    cases x
    cases r
    exact ⟨_, ReadsW.bool b⟩
  | .int i, _, _, x, r => by
    cases x
    obtain ⟨t, rfl⟩ := r
    exact ⟨_, ReadsW.int i t⟩
  | .str s, _, _, x, r => by
    cases x
    obtain ⟨t, rfl⟩ := r
    exact ⟨_, ReadsW.str s t⟩
  | .bytes b, _, _, x, r => by
    cases x
    obtain ⟨t, rfl⟩ := r
    exact ⟨_, ReadsW.bytes _ t⟩
  | .list ds, _, _, x, r => by
    cases x with
    | lst hs ha =>
      cases r
      obtain ⟨its, o, n, rv, ho, hc, hd⟩ := sqL_at hok KX hs
      obtain ⟨as, hr⟩ := Dw.readsAll hok KX ds _ its ha rv
      exact ⟨_, ReadsW.list ho hc hd hr⟩
  | .tuple ds, _, _, x, r => by
    cases x with
    | tup hs ha =>
      cases r
      obtain ⟨its, o, n, rv, ho, hc, hd⟩ := sqT_at hok KX hs
      obtain ⟨as, hr⟩ := Dw.readsAll hok KX ds _ its ha rv
      exact ⟨_, ReadsW.tuple ho hc hd hr⟩
  | .float _, _, _, x, _ => by cases x
  | .dict _, _, _, x, _ => by cases x
  | .bytearray _, _, _, x, _ => by cases x
  | .set _, _, _, x, _ => by cases x
  | .frozenset _, _, _, x, _ => by cases x
  | .obj _ _, _, _, x, _ => by cases x
theorem Dw.readsAll (hok : HOk P w H h) (KX : K.In h) : ∀ (ds : List WData) (vs : List V) (us : List Value), DwAll K H vs ds → Vals vs us → ∃ as, ReadsAllW R cl h us ds as
  | [], _, _, x, r => by
    cases x
    cases r
    exact ⟨_, ReadsAllW.nil⟩
  | d :: ds, _, _, x, r => by
    cases x with
    | cons h1 h2 =>
      cases r with
      | cons r1 r2 =>
        obtain ⟨as, q1⟩ := Dw.reads hok KX d _ _ h1 r1
        obtain ⟨bs, q2⟩ := Dw.readsAll hok KX ds _ _ h2 r2
        exact ⟨_, ReadsAllW.cons q1 q2⟩
end
end
/-! ### the arguments -/
mutual
/-- data that a codec tells -/
def plW : WData → Bool
  | .none => true
  | .bool _ => true
  | .int _ => true
  | .str _ => true
  | .bytes _ => true
  | .list xs => plWs xs
  | .tuple xs => plWs xs
  | _ => false
def plWs : List WData → Bool
  | [] => true
  | x :: r => plW x && plWs r
end
theorem plWs_map {α : Type} {f : α → WData} (h : ∀ a, plW (f a) = true) : ∀ l : List α, plWs (l.map f) = true
  | [] => rfl
  | x :: r => by
    show (plW (f x) && plWs (r.map f)) = true
    rw [h x, plWs_map h r] <;> rfl
theorem pl_enc : ∀ (c : Codec) (a : c.denote), plW (c.enc a) = true
  | .unit, _ => rfl
  | .bool, _ => rfl
  | .int _ _, _ => rfl
  | .nat _ _, _ => rfl
  | .u8, _ => rfl
  | .bytes _ _, _ => rfl
  | .text _ _ _ _, _ => rfl
  | .list _ _ c, a => plWs_map (fun x => pl_enc c x) a
  | .pair c d, a => by
    show (plW (c.enc a.1) && (plW (d.enc a.2) && true)) = true
    rw [pl_enc c a.1, pl_enc d a.2] <;> rfl
  | .triple c d e, a => by
    show (plW (c.enc a.1) && (plW (d.enc a.2.1) && (plW (e.enc a.2.2) && true))) = true
    rw [pl_enc c a.1, pl_enc d a.2.1, pl_enc e a.2.2] <;> rfl
  | .option c, none => rfl
  | .option c, some x => pl_enc c x
theorem pl_encAll : ∀ (cs : List Codec) (a : Codec.denoteAll cs), plWs (Codec.encAll cs a) = true
  | [], _ => rfl
  | c :: cs, a => by
    show (plW (c.enc a.1) && plWs (Codec.encAll cs a.2)) = true
    rw [pl_enc c a.1, pl_encAll cs a.2] <;> rfl
theorem weight_mem : ∀ {xs : List WData} {d : WData}, d ∈ xs → d.weight ≤ WData.weightAll xs
  | [], d, h => absurd h (by simp)
  | x :: r, d, h => by
    show d.weight ≤ x.weight + 1 + WData.weightAll r
    rcases List.mem_cons.mp h with e | m
    · rw [e]
      omega
    · have z := weight_mem m
      omega
def toV : Value → V
  | .none => .non
  | .bool b => .bl b
  | .int i _ => .int i
  | .str x _ => .str x
  | .bytes b _ => .byt b
  | .ref a => .ref a
  | _ => .non
/-- a value of the arguments, its objects among A -/
def OkU (A : List Addr) : Value → Prop
  | .none => True
  | .bool _ => True
  | .int _ _ => True
  | .str _ _ => True
  | .bytes _ _ => True
  | .ref a => a ∈ A
  | _ => False
theorem OkU.mono {A B : List Addr} (h : ∀ a ∈ A, a ∈ B) : ∀ {u : Value}, OkU A u → OkU B u := fun {u} x => by
  cases u with
  | ref a => exact h a x
  | none => trivial
  | bool b => trivial
  | int i t => trivial
  | str s t => trivial
  | bytes b t => trivial
  | _ => exact False.elim x
theorem relV_toV {A : List Addr} {u : Value} (x : OkU A u) : RelV (toV u) u := by
  cases u with
  | ref a => rfl
  | none => rfl
  | bool b => rfl
  | int i t => exact ⟨t, rfl⟩
  | str s t => exact ⟨t, rfl⟩
  | bytes b t => exact ⟨t, rfl⟩
  | _ => exact False.elim x
theorem vals_toV {A : List Addr} : ∀ {vs : List Value}, (∀ u ∈ vs, OkU A u) → Vals (vs.map toV) vs
  | [], _ => .nil
  | u :: r, h => .cons (relV_toV (h u (List.mem_cons_self ..))) (vals_toV fun x hx => h x (List.mem_cons_of_mem _ hx))
/-- an object of the arguments -/
def ArgOb (h : Heap) (A : List Addr) (a : Addr) : Prop := ∃ vs : List Value, vs.length ≤ sizeLine ∧ (∀ u ∈ vs, OkU A u) ∧
  (h.get? a = some { cls := .type "list", data := .seq vs.toArray } ∨ h.get? a = some { cls := .type "tuple", data := .seq vs.toArray })
theorem ArgOb.mono {h : Heap} {A B : List Addr} {a : Addr} (k : ∀ a ∈ A, a ∈ B) (x : ArgOb h A a) : ArgOb h B a := by
  obtain ⟨vs, h1, h2, h3⟩ := x
  exact ⟨vs, h1, fun u hu => (h2 u hu).mono k, h3⟩
theorem wellAll_len {P : Params} {h : Heap} : ∀ {vs : List Value} {ds : List WData}, WellAll P h vs ds → vs.length = ds.length
  | _, _, .nil => rfl
  | _, _, .cons _ b => by
    show _ + 1 = _ + 1
    rw [wellAll_len b]
theorem well_list {P : Params} {h : Heap} {v : Value} {ds : List WData} (x : Well P h v (.list ds)) : ∃ (a : Addr) (vs : List Value), v = .ref a ∧ h.get? a = some { cls := .type "list", data := .seq vs.toArray } ∧ WellAll P h vs ds := by
  cases x with
  | list ho hall => exact ⟨_, _, rfl, ho, hall⟩
theorem well_tuple {P : Params} {h : Heap} {v : Value} {ds : List WData} (x : Well P h v (.tuple ds)) : ∃ (a : Addr) (vs : List Value), v = .ref a ∧ h.get? a = some { cls := .type "tuple", data := .seq vs.toArray } ∧ WellAll P h vs ds := by
  cases x with
  | tuple ho hall => exact ⟨_, _, rfl, ho, hall⟩
theorem well_cons {P : Params} {h : Heap} {us : List Value} {d : WData} {ds : List WData} (x : WellAll P h us (d :: ds)) : ∃ (v : Value) (vs : List Value), us = v :: vs ∧ Well P h v d ∧ WellAll P h vs ds := by
  cases x with
  | cons a b => exact ⟨_, _, rfl, a, b⟩
theorem line_of {n : Nat} (h : n ≤ 1048576) : n ≤ sizeLine := Nat.le_trans h (by decide)
section
variable {P : Params} {h : Heap}
mutual
theorem area_one : ∀ (d : WData) (v : Value), Well P h v d → plW d = true → d.weight ≤ 1048576 → ∃ A : List Addr, OkU A v ∧ ∀ a ∈ A, ArgOb h A a
  | .none, _, x, _, _ => by
    cases x
    exact ⟨[], trivial, fun a m => absurd m (by simp)⟩
  | .bool b, _, x, _, _ => by
    cases x
    exact ⟨[], trivial, fun a m => absurd m (by simp)⟩
  | .int i, _, x, _, _ => by
    cases x
    exact ⟨[], trivial, fun a m => absurd m (by simp)⟩
  | .str s, _, x, _, _ => by
    cases x
    exact ⟨[], trivial, fun a m => absurd m (by simp)⟩
  | .bytes b, _, x, _, _ => by
    cases x
    exact ⟨[], trivial, fun a m => absurd m (by simp)⟩
  | .list ds, _, x, p, z => by
    obtain ⟨a, vs, rfl, ho, hall⟩ := well_list x
    have z2 : WData.weightAll ds ≤ 1048576 := z
    obtain ⟨A, h1, h2⟩ := area_all ds _ hall p fun d hd => Nat.le_trans (weight_mem hd) z2
    have k : ∀ b ∈ A, b ∈ a :: A := fun b hb => List.mem_cons_of_mem _ hb
    refine ⟨a :: A, List.mem_cons_self .., fun b hb => ?_⟩
    rcases List.mem_cons.mp hb with e | m
    · rw [e]
      exact ⟨vs, line_of (by rw [wellAll_len hall]; exact Nat.le_trans (PySem.W.length_le_weightAllW ds) z2), fun u hu => (h1 u hu).mono k, .inl ho⟩
    · exact (h2 b m).mono k
  | .tuple ds, _, x, p, z => by
    obtain ⟨a, vs, rfl, ho, hall⟩ := well_tuple x
    have z2 : WData.weightAll ds ≤ 1048576 := z
    obtain ⟨A, h1, h2⟩ := area_all ds _ hall p fun d hd => Nat.le_trans (weight_mem hd) z2
    have k : ∀ b ∈ A, b ∈ a :: A := fun b hb => List.mem_cons_of_mem _ hb
    refine ⟨a :: A, List.mem_cons_self .., fun b hb => ?_⟩
    rcases List.mem_cons.mp hb with e | m
    · rw [e]
      exact ⟨vs, line_of (by rw [wellAll_len hall]; exact Nat.le_trans (PySem.W.length_le_weightAllW ds) z2), fun u hu => (h1 u hu).mono k, .inr ho⟩
    · exact (h2 b m).mono k
  | .float _, _, _, p, _ => Bool.noConfusion (show false = true from p)
  | .dict _, _, _, p, _ => Bool.noConfusion (show false = true from p)
  | .bytearray _, _, _, p, _ => Bool.noConfusion (show false = true from p)
  | .set _, _, _, p, _ => Bool.noConfusion (show false = true from p)
  | .frozenset _, _, _, p, _ => Bool.noConfusion (show false = true from p)
  | .obj _ _, _, _, p, _ => Bool.noConfusion (show false = true from p)
theorem area_all : ∀ (ds : List WData) (vs : List Value), WellAll P h vs ds → plWs ds = true → (∀ d ∈ ds, d.weight ≤ 1048576) → ∃ A : List Addr, (∀ u ∈ vs, OkU A u) ∧ ∀ a ∈ A, ArgOb h A a
  | [], _, x, _, _ => by
    cases x
    exact ⟨[], fun u m => absurd m (by simp), fun a m => absurd m (by simp)⟩
  | d :: ds, _, x, p, z => by
    obtain ⟨v, vs, rfl, x1, x2⟩ := well_cons x
    have q : plW d = true ∧ plWs ds = true := Bool.and_eq_true_iff.mp p
    obtain ⟨A, a1, a2⟩ := area_one d v x1 q.1 (z d (List.mem_cons_self ..))
    obtain ⟨B, b1, b2⟩ := area_all ds vs x2 q.2 fun e he => z e (List.mem_cons_of_mem _ he)
    have kA : ∀ b ∈ A, b ∈ A ++ B := fun b hb => List.mem_append.mpr (.inl hb)
    have kB : ∀ b ∈ B, b ∈ A ++ B := fun b hb => List.mem_append.mpr (.inr hb)
    refine ⟨A ++ B, fun u hu => ?_, fun b hb => ?_⟩
    · rcases List.mem_cons.mp hu with e | m
      · rw [e]
        exact a1.mono kA
      · exact (b1 u m).mono kB
    · rcases List.mem_append.mp hb with m | m
      · exact (a2 b m).mono kA
      · exact (b2 b m).mono kB
end
end
/-- what is tracked of an argument's object -/
def hoOf (o : Obj) : Option HO := match o.data with
  | .seq vs _ => if (o.cls == Value.type "list") = true then some (.frz o (.lst (vs.toList.map toV))) else some (.frz o (.tup (vs.toList.map toV)))
  | _ => none
def argH (K : PySem.W.Frag) (h : Heap) (A : List Addr) : Hp := fun b => if b ∈ A then (if (K.lookup b).isNone = true then (h.get? b).bind hoOf else none) else none
/-- nothing is tracked but what is known to the object -/
def OnlyF (H : Hp) : Prop := ∀ b, H b = none ∨ ∃ o u, H b = some (.frz o u)
theorem hoOf_lst (vs : List Value) : hoOf { cls := .type "list", data := .seq vs.toArray } = some (.frz { cls := .type "list", data := .seq vs.toArray } (.lst (vs.map toV))) := by
  show (if (Value.type "list" == Value.type "list") = true then some (HO.frz { cls := .type "list", data := .seq vs.toArray } (.lst (vs.toArray.toList.map toV))) else some (HO.frz { cls := .type "list", data := .seq vs.toArray } (.tup (vs.toArray.toList.map toV)))) = _
  rw [if_pos (beq_self_eq_true _)]
theorem hoOf_tup (vs : List Value) : hoOf { cls := .type "tuple", data := .seq vs.toArray } = some (.frz { cls := .type "tuple", data := .seq vs.toArray } (.tup (vs.map toV))) := by
  show (if (Value.type "tuple" == Value.type "list") = true then some (HO.frz { cls := .type "tuple", data := .seq vs.toArray } (.lst (vs.toArray.toList.map toV))) else some (HO.frz { cls := .type "tuple", data := .seq vs.toArray } (.tup (vs.toArray.toList.map toV)))) = _
  rw [if_neg (by decide)]
section
variable {P : Program} {w : World} {K : PySem.W.Frag} {h : Heap} {A : List Addr}
theorem argH_at {b : Addr} {o : Obj} (hb : b ∈ A) (hk : K.lookup b = none) (e : h.get? b = some o) : argH K h A b = hoOf o := by
  unfold argH
  rw [if_pos hb, hk, if_pos (show (none : Option Obj).isNone = true from rfl), e] <;> rfl
theorem of_argH {b : Addr} {u : HO} (q : argH K h A b = some u) : b ∈ A ∧ K.lookup b = none := by
  unfold argH at q
  by_cases hb : b ∈ A
  · rw [if_pos hb] at q
    cases hk : K.lookup b with
    | none => exact ⟨hb, rfl⟩
    | some o =>
      rw [hk, if_neg (by simp)] at q
      cases q
  · rw [if_neg hb] at q
    cases q
/-- what stands tracked -/
theorem argH_is (ar : ∀ a ∈ A, ArgOb h A a) {b : Addr} {u : HO} (q : argH K h A b = some u) : K.lookup b = none ∧ ∃ vs : List Value, vs.length ≤ sizeLine ∧ (∀ u ∈ vs, OkU A u) ∧
    ((h.get? b = some { cls := .type "list", data := .seq vs.toArray } ∧ u = .frz { cls := .type "list", data := .seq vs.toArray } (.lst (vs.map toV))) ∨
     (h.get? b = some { cls := .type "tuple", data := .seq vs.toArray } ∧ u = .frz { cls := .type "tuple", data := .seq vs.toArray } (.tup (vs.map toV)))) := by
  obtain ⟨hb, hk⟩ := of_argH q
  obtain ⟨vs, h1, h2, h3⟩ := ar b hb
  refine ⟨hk, vs, h1, h2, ?_⟩
  rcases h3 with e | e
  · rw [argH_at hb hk e, hoOf_lst] at q
    exact .inl ⟨e, (Option.some.inj q).symm⟩
  · rw [argH_at hb hk e, hoOf_tup] at q
    exact .inr ⟨e, (Option.some.inj q).symm⟩
theorem argH_only (ar : ∀ a ∈ A, ArgOb h A a) : OnlyF (argH K h A) := fun b => by
  cases q : argH K h A b with
  | none => exact .inl rfl
  | some u =>
    obtain ⟨_, vs, _, _, ⟨_, e⟩ | ⟨_, e⟩⟩ := argH_is ar q
    · exact .inr ⟨_, _, by rw [e]⟩
    · exact .inr ⟨_, _, by rw [e]⟩
theorem argH_ok (ar : ∀ a ∈ A, ArgOb h A a) : HOk P w (argH K h A) h := fun b u q => by
  obtain ⟨_, vs, h1, h2, ⟨e, rfl⟩ | ⟨e, rfl⟩⟩ := argH_is ar q
  · exact ⟨e, by rw [List.length_map]; exact h1, vs, _, vals_toV h2, e⟩
  · exact ⟨e, by rw [List.length_map]; exact h1, vs, vals_toV h2, _, e, rfl, _, rfl⟩
theorem seq_inj {c c' : Value} {vs us : List Value} (e : (some { cls := c, data := .seq vs.toArray } : Option Obj) = some { cls := c', data := .seq us.toArray }) : c = c' ∧ vs = us := by
  have e1 := Option.some.inj e
  have e2 : c = c' := congrArg Obj.cls e1
  have e3 : Data.seq vs.toArray = Data.seq us.toArray := congrArg Obj.data e1
  injection e3 with e4
  refine ⟨e2, ?_⟩
  have e5 := congrArg Array.toList e4
  simpa using e5
/-- a list argument -/
theorem argL (KX : K.In h) (ar : ∀ a ∈ A, ArgOb h A a) {a : Addr} {vs : List Value} (ha : a ∈ A) (e : h.get? a = some { cls := .type "list", data := .seq vs.toArray }) : (∀ u ∈ vs, OkU A u) ∧ SqL K (argH K h A) a (vs.map toV) := by
  obtain ⟨us, h1, h2, h3⟩ := ar a ha
  have hu : us = vs := by
    rcases h3 with q | q
    · rw [e] at q
      exact (seq_inj q).2.symm
    · rw [e] at q
      exact absurd (Value.type.inj (seq_inj q).1) (by decide)
  subst hu
  refine ⟨h2, ?_⟩
  cases hk : K.lookup a with
  | none => exact .inl (.inr ⟨_, by rw [argH_at ha hk e, hoOf_lst]⟩)
  | some o =>
    have e2 := KX a o hk
    rw [e] at e2
    obtain rfl := Option.some.inj e2
    exact .inr ⟨_, us.toArray, _, hk, rfl, rfl, rfl, by rw [List.size_toArray]; exact h1, by simpa using vals_toV h2⟩
theorem argT (KX : K.In h) (ar : ∀ a ∈ A, ArgOb h A a) {a : Addr} {vs : List Value} (ha : a ∈ A) (e : h.get? a = some { cls := .type "tuple", data := .seq vs.toArray }) : (∀ u ∈ vs, OkU A u) ∧ SqT K (argH K h A) a (vs.map toV) := by
  obtain ⟨us, h1, h2, h3⟩ := ar a ha
  have hu : us = vs := by
    rcases h3 with q | q
    · rw [e] at q
      exact absurd (Value.type.inj (seq_inj q).1) (by decide)
    · rw [e] at q
      exact (seq_inj q).2.symm
  subst hu
  refine ⟨h2, ?_⟩
  cases hk : K.lookup a with
  | none => exact .inl (.inr ⟨_, by rw [argH_at ha hk e, hoOf_tup]⟩)
  | some o =>
    have e2 := KX a o hk
    rw [e] at e2
    obtain rfl := Option.some.inj e2
    exact .inr ⟨_, us.toArray, _, hk, rfl, rfl, by rw [List.size_toArray]; exact h1, by simpa using vals_toV h2⟩
mutual
theorem dw_one {Pm : Params} (KX : K.In h) (ar : ∀ a ∈ A, ArgOb h A a) : ∀ (d : WData) (v : Value), Well Pm h v d → plW d = true → OkU A v → Dw K (argH K h A) (toV v) d
  | .none, _, x, _, _ => by
    cases x
    exact .non
  | .bool b, _, x, _, _ => by
    cases x
    exact .bl b
  | .int i, _, x, _, _ => by
    cases x
    exact .int i
  | .str s, _, x, _, _ => by
    cases x
    exact .str s
  | .bytes b, _, x, _, _ => by
    cases x
    have z := Dw.byt (K := K) (H := argH K h A) b.toArray
    exact z
  | .list ds, _, x, p, hu => by
    obtain ⟨a, vs, rfl, ho, hall⟩ := well_list x
    obtain ⟨h2, hs⟩ := argL KX ar hu ho
    exact .lst hs (dw_all KX ar ds _ hall p h2)
  | .tuple ds, _, x, p, hu => by
    obtain ⟨a, vs, rfl, ho, hall⟩ := well_tuple x
    obtain ⟨h2, hs⟩ := argT KX ar hu ho
    exact .tup hs (dw_all KX ar ds _ hall p h2)
  | .float _, _, _, p, _ => Bool.noConfusion (show false = true from p)
  | .dict _, _, _, p, _ => Bool.noConfusion (show false = true from p)
  | .bytearray _, _, _, p, _ => Bool.noConfusion (show false = true from p)
  | .set _, _, _, p, _ => Bool.noConfusion (show false = true from p)
  | .frozenset _, _, _, p, _ => Bool.noConfusion (show false = true from p)
  | .obj _ _, _, _, p, _ => Bool.noConfusion (show false = true from p)
theorem dw_all {Pm : Params} (KX : K.In h) (ar : ∀ a ∈ A, ArgOb h A a) : ∀ (ds : List WData) (vs : List Value), WellAll Pm h vs ds → plWs ds = true → (∀ u ∈ vs, OkU A u) → DwAll K (argH K h A) (vs.map toV) ds
  | [], _, x, _, _ => by
    cases x
    exact .nil
  | d :: ds, _, x, p, hu => by
    obtain ⟨v, vs, rfl, x1, x2⟩ := well_cons x
    have q : plW d = true ∧ plWs ds = true := Bool.and_eq_true_iff.mp p
    exact .cons (dw_one KX ar d v x1 q.1 (hu _ (List.mem_cons_self ..))) (dw_all KX ar ds vs x2 q.2 fun u m => hu u (List.mem_cons_of_mem _ m))
end
end
/-! ### the call -/
theorem spec_call {P : Program} {w : World} {K : PySem.W.Frag} {mg mb : Str → Option Value} {CX : CXT} {k : Nat} {fa : Addr} {fd : FuncData} {ps : List Str} {sp : Sp} {s₁ : Shared} {vals : List Value} {ds : List WData} {R : PySem.W.WRecords} {cl : Str → Option Addr} {d0 : WData}
    (KX : K.In s₁.heap) (hns : s₁.heap.Ns mainGlobals mg) (hb : s₁.heap.Ns builtinsNs mb) (hbb : ∀ x : Str, x ≠ "__name__" → mb x = bootBuiltins x) (hlim : s₁.heap.NoLimit) (hg : s₁.gens = #[])
    (hwl : WellAll w.params s₁.heap vals ds) (hpl : plWs ds = true) (hwt : ∀ d ∈ ds, d.weight ≤ 1048576) (hr : Room k callerA)
    (F : ∀ base : Heap, K.In base → base.Ns mainGlobals mg → FnOk P w K mg base CX k fa fd ps sp) (hbind : ∀ (s : Shared) (us : List Value), us.length = ps.length → BindsTo s fd ⟨us, []⟩ (ps.zip us)) (hlen : ds.length = ps.length)
    (hsp : ∀ (H : Hp) (xs : List V), OnlyF H → DwAll K H xs ds → sp xs H (fun v H' => Dw K H' v d0) fun _ _ _ => False)
    (hCX : ∀ H e s', CX [] H s₁ (fun _ _ _ => False) e s' → False) :
    codeAny (model P w) callerA (.call (.ref fa) ⟨vals, []⟩) (fun r s' => ∃ u as, r = .ok (.ret u) ∧ ReadsW R cl s'.heap u d0 as ∧ OldK s₁.heap s'.heap ∧ s'.os = s₁.os ∧ AllBare s'.gens) s₁ := by
  obtain ⟨A, ho, ar⟩ := area_all ds vals hwl hpl hwt
  have hO : OnlyF (argH K s₁.heap A) := argH_only ar
  have hok : HOk P w (argH K s₁.heap A) s₁.heap := argH_ok ar
  have hS := dw_all KX ar ds vals hwl hpl ho
  have hV := vals_toV ho
  have hK : ∀ b u, argH K s₁.heap A b = some u → K.lookup b = none := fun b u q => (argH_is ar q).1
  have noA : ∀ {b : Addr} {o : Obj} {es : Array DictEntry} {ep : Nat}, s₁.heap.get? b = some o → o.data = .dict es ep → argH K s₁.heap A b = none := fun {b o es ep} e d => by
    cases q : argH K s₁.heap A b with
    | none => rfl
    | some u =>
      obtain ⟨_, vs, _, _, ⟨e2, _⟩ | ⟨e2, _⟩⟩ := argH_is ar q
      · rw [e2] at e
        cases e
        have d' : Data.seq vs.toArray _ = Data.dict es ep := d
        cases d'
      · rw [e2] at e
        cases e
        have d' : Data.seq vs.toArray _ = Data.dict es ep := d
        cases d'
  generalize argH K s₁.heap A = H at hO hok hS hK noA
  have base_of : ∀ {b : Addr} {o : Obj}, s₁.heap.get? b = some o → H b = none → (hidT s₁.heap H).get? b = some o := fun e n => hidT_get e n
  have nsK : ∀ {b : Addr} {m : Str → Option Value}, s₁.heap.Ns b m → (hidT s₁.heap H).Ns b m := fun {b m} ⟨o, es, ep, e, d, r⟩ => ⟨o, es, ep, base_of e (noA e d), d, r⟩
  have nK : ∀ b o, K.lookup b = some o → H b = none := fun b o e => by
    cases q : H b with
    | none => rfl
    | some u =>
      rw [hK b u q] at e
      cases e
  have hKb : K.In (hidT s₁.heap H) := fun b o e => base_of (KX b o e) (nK b o e)
  have hM : Mod K mg (hidT s₁.heap H) := ⟨hKb, nsK hns, ⟨mb, nsK hb, hbb⟩, let ⟨mc, h1, h2⟩ := hlim; ⟨mc, nsK h1, h2⟩⟩
  have e0 : Env0 P w K mg (hidT s₁.heap H) callerA [] s₁ H := ⟨rfl, hM, fun b o e => of_hidT e, Nat.le_of_eq (hidT_size _ _), trivial, fun b hb => absurd (show b ∈ ([] : List Addr) from hb) (by simp), hok, .of_eq hg⟩
  have hl : vals.length = ps.length := by rw [wellAll_len hwl]; exact hlen
  refine codeAny_mono ((F _ hKb (nsK hns)).run callerA [] s₁ H ⟨vals, []⟩ vals (vals.map toV) _ _ hr e0 (hbind s₁ vals hl) hV (hsp H _ hO hS)) fun r s' x => ?_
  cases r with
  | error e => exact (hCX H e s' x).elim
  | ok fl =>
    cases fl with
    | next => exact False.elim x
    | brk => exact False.elim x
    | cont => exact False.elim x
    | ret u =>
      obtain ⟨v, H', os, bare, un, hok', r', q⟩ := x
      have kept : ∀ b o, s₁.heap.get? b = some o → s'.heap.get? b = some o := fun b o e => by
        cases q2 : H b with
        | none => exact un.keep b o e q2 (by intro z; exact absurd (show b ∈ ([] : List Addr) from z) (by simp)) (by simp)
        | some u2 =>
          rcases hO b with z | ⟨ob, u3, z⟩
          · rw [q2] at z
            cases z
          · have z2 := un.frzs b ob _ z
            obtain ⟨e1, _⟩ := hok b _ z
            obtain ⟨e2, _⟩ := hok' b _ z2
            rw [e] at e1
            cases e1
            exact e2
      have KX' : K.In s'.heap := fun b o e => kept b o (KX b o e)
      obtain ⟨as, hrd⟩ := Dw.reads (R := R) (cl := cl) hok' KX' d0 v u q r'
      exact ⟨u, as, rfl, hrd, OldK.of_keep kept, os, bare⟩
/-! ### the row -/
theorem layable_weight {ds : List WData} (h : WData.layableAll ds = true) : ∀ d ∈ ds, d.weight ≤ 1048576 := fun d hd =>
  (PySem.W.layableW_iff.mp (List.all_eq_true.mp h d hd)).2.2
theorem encAll_len : ∀ (cs : List Codec) (a : Codec.denoteAll cs), (Codec.encAll cs a).length = cs.length
  | [], _ => rfl
  | c :: cs, a => by
    show (Codec.encAll cs a.2).length + 1 = cs.length + 1
    rw [encAll_len cs a.2]
/-- the goal that k_headS leaves (case hc), from the promise of the row's def: whatever the arguments that the codecs let and the row asks for, the def gives what stands for enc (f ..) -/
theorem walk_spec {r : OpenSpec} {k : Nat} {q : Program} {loose : List Str} {XP : (Str → Option Value) → Heap → Prop} {YP : World → Heap → Prop} {d : DefRec} {K : Params → PySem.W.Frag} {CX : World → CXT} {ps : List Str} {sp : World → Sp}
    (hwell : r.wellSaid = true) (hdf : d.params.defaults = []) (hlen : r.args.length = ps.length) (hr : Room k callerA)
    (hY : ∀ (w : World) (h : Heap), YP w h → (K w.params).In h)
    (F : ∀ (w : World) (mg : Str → Option Value) (fa : Addr) (h : Heap), YP w h → (K w.params).In h → h.Ns mainGlobals mg → mg d.name = some (.ref fa) →
      ∃ fd : FuncData, (∀ (s : Shared) (us : List Value), us.length = ps.length → BindsTo s fd ⟨us, []⟩ (ps.zip us)) ∧
        ∀ base : Heap, (K w.params).In base → base.Ns mainGlobals mg → FnOk r.prog w (K w.params) mg base (CX w) k fa fd ps (sp w))
    (hsp : ∀ (w : World) (H : Hp) (xs : List V) (a : Codec.denoteAll r.args), OnlyF H → Codec.withinAll r.args a = true → Codec.app r.args r.asked a = true → DwAll (K w.params) H xs (Codec.encAll r.args a) →
      sp w xs H (fun v H' => Dw (K w.params) H' v (r.ret.enc (Codec.app r.args r.f a))) fun _ _ _ => False)
    (hCX : ∀ (w : World) (H : Hp) (s : Shared) (e : Value) (s' : Shared), CX w [] H s (fun _ _ _ => False) e s' → False) :
    PySem.W.WalkOS q loose XP YP r d [] (fun f vs => PySem.call f vs) := by
  intro w s_0 s₁ mg mb G Y fa o pm cd doc dV kV ho hd hcd hD hmg hg args vals as hpre hlay hrd hwl hlo
  obtain ⟨a, e1, e2⟩ := PySem.W.os_pre_some hpre
  obtain ⟨e3, hwi⟩ := Codec.encAll_of_decAll r.args args a e1
  subst e3
  have KX := hY w _ Y
  obtain ⟨fd, hb, hF⟩ := F w mg fa _ Y KX G.T.g hmg
  refine PySem.W.enter_call (codeAny_mono (spec_call (R := []) (cl := classAt s_0.heap) (d0 := r.ret.enc (Codec.app r.args r.f a)) KX G.T.g G.T.b G.T.builtins G.T.nolimit hg hwl (pl_encAll _ _) (layable_weight hlay) hr hF hb (by rw [encAll_len]; exact hlen)
    (fun H xs hO hS => hsp w H xs a hO hwi e2 hS) fun H e s' => hCX w H s₁ e s') fun r' s' hq => ?_)
  obtain ⟨u, as', rfl, h1, h2, h3, h4⟩ := hq
  exact ⟨.inl ⟨u, _, as', rfl, fun _ => rfl, h1, (OpenSpec.post_iff hwell hwi _ _).mpr rfl, fun z => Bool.noConfusion (show false = true from z)⟩, h2, h3, h4⟩
/-- the same where the promise hangs on the written part alone -/
theorem walk_specK {r : OpenSpec} {k : Nat} {q : Program} {loose : List Str} {XP : (Str → Option Value) → Heap → Prop} {YP : World → Heap → Prop} {d : DefRec} {K : Params → PySem.W.Frag} {CX : CXT} {ps : List Str} {sp : PySem.W.Frag → Sp}
    (hwell : r.wellSaid = true) (hdf : d.params.defaults = []) (hlen : r.args.length = ps.length) (hr : Room k callerA)
    (hY : ∀ (w : World) (h : Heap), YP w h → (K w.params).In h)
    (F : ∀ (w : World) (mg : Str → Option Value) (fa : Addr) (h : Heap), YP w h → (K w.params).In h → h.Ns mainGlobals mg → mg d.name = some (.ref fa) →
      ∃ fd : FuncData, (∀ (s : Shared) (us : List Value), us.length = ps.length → BindsTo s fd ⟨us, []⟩ (ps.zip us)) ∧
        ∀ base : Heap, (K w.params).In base → base.Ns mainGlobals mg → FnOk r.prog w (K w.params) mg base CX k fa fd ps (sp (K w.params)))
    (hsp : ∀ (K : PySem.W.Frag) (H : Hp) (xs : List V) (a : Codec.denoteAll r.args), OnlyF H → Codec.withinAll r.args a = true → Codec.app r.args r.asked a = true → DwAll K H xs (Codec.encAll r.args a) →
      sp K xs H (fun v H' => Dw K H' v (r.ret.enc (Codec.app r.args r.f a))) fun _ _ _ => False)
    (hCX : ∀ (H : Hp) (s : Shared) (e : Value) (s' : Shared), CX [] H s (fun _ _ _ => False) e s' → False) :
    PySem.W.WalkOS q loose XP YP r d [] (fun f vs => PySem.call f vs) :=
  walk_spec (K := K) (CX := fun _ => CX) (sp := fun w => sp (K w.params)) hwell hdf hlen hr hY F (fun w H xs a h1 h2 h3 h4 => hsp (K w.params) H xs a h1 h2 h3 h4) fun _ H s e s' => hCX H s e s'
end L2
-- rests on (row put in by the clerk, for the bench that shows a file only what it spells): KE.SpHead KE.OsShapes
end
section
set_option Elab.async false
set_option linter.all false
set_option maxRecDepth 100000
set_option maxHeartbeats 2000000
namespace Sg
/-! ### reading the calls -/
/-- one call of the shape, its numbers, and what is behind it -/
theorem row_some {r x t : List Int} (h : PyFlat.row r = some (x, t)) : r = (x.length : Int) :: (x ++ t) := by
  cases r with
  | nil => cases h
  | cons n r =>
    unfold PyFlat.row at h
    simp only at h
    split at h
    · rename_i hn
      simp only [Option.some.injEq, Prod.mk.injEq] at h
      obtain ⟨rfl, rfl⟩ := h
      rw [List.take_append_drop, List.length_take, Nat.min_eq_left hn.2]
      have e : ((n.toNat : Nat) : Int) = n := Int.toNat_of_nonneg hn.1
      rw [e]
    · cases h
theorem len1 {r : List Int} (h : ¬ r.length < 1) : ∃ a t, r = a :: t := by
  cases r with
  | nil => simp at h
  | cons a t => exact ⟨a, t, rfl⟩
theorem len2 {r : List Int} (h : ¬ r.length < 2) : ∃ a b t, r = a :: b :: t := by
  cases r with
  | nil => simp at h
  | cons a t =>
    cases t with
    | nil => simp at h
    | cons b t => exact ⟨a, b, t, rfl⟩
theorem rows0 (r : List Int) : PyFlat.rows 0 r = some ([], r) := rfl
theorem rows1 {r : List Int} {xs : List (List Int)} {t : List Int} (h : PyFlat.rows 1 r = some (xs, t)) : ∃ x, xs = [x] ∧ PyFlat.row r = some (x, t) := by
  unfold PyFlat.rows at h
  cases e : PyFlat.row r with
  | none => rw [e] at h; cases h
  | some y =>
    obtain ⟨x, s⟩ := y
    rw [e] at h
    simp only [rows0, Option.some.injEq, Prod.mk.injEq] at h
    obtain ⟨rfl, rfl⟩ := h
    exact ⟨x, rfl, rfl⟩
/-- a call: its number and its numbers as they stand in the list -/
inductive Cal : List Int → List (List Int) → List Int → Prop
  | clear (a : Int) (t : List Int) : Cal (1 :: a :: t) [[1, a]] t
  | load (a : Int) (b t : List Int) : Cal (2 :: a :: (b.length : Int) :: (b ++ t)) [[2, a], b] t
  | look (a n : Int) (t : List Int) : Cal (3 :: a :: n :: t) [[3, a, n]] t
  | key (a n : Int) (t : List Int) : Cal (4 :: a :: n :: t) [[4, a, n]] t
  | tick (t : List Int) : Cal (5 :: t) [[5]] t
  | run (a : Int) (t : List Int) : Cal (6 :: a :: t) [[6, a]] t
  | why (t : List Int) : Cal (7 :: t) [[7]] t
  | get (a : Int) (t : List Int) : Cal (8 :: a :: t) [[8, a]] t
  | set (a n : Int) (t : List Int) : Cal (9 :: a :: n :: t) [[9, a, n]] t
  | screen (t : List Int) : Cal (10 :: t) [[10]] t
theorem call_cal {l : List Int} {c : List (List Int)} {t : List Int} (h : PyFlat.call PySz36.shape l = some (c, t)) : Cal l c t := by
  cases l with
  | nil => cases h
  | cons p r =>
    unfold PyFlat.call at h
    simp only at h
    have go0 : ∀ {n : Nat} {u : List (List Int) × List Int}, (if r.length < n then none else match PyFlat.rows 0 (r.drop n) with | none => none | some (xs, t) => some ((p :: r.take n) :: xs, t)) = some u → ¬ r.length < n ∧ u = ([p :: r.take n], r.drop n) := by
      intro n u h
      split at h
      · cases h
      · rename_i hn
        simp only [rows0, Option.some.injEq] at h
        exact ⟨hn, h.symm⟩
    by_cases h1 : p = 1
    · subst h1
      obtain ⟨hn, e⟩ := go0 (n := 1) h
      obtain ⟨a, t', rfl⟩ := len1 hn
      cases e
      exact .clear a t'
    by_cases h2 : p = 2
    · subst h2
      have h : (if r.length < 1 then none else match PyFlat.rows 1 (r.drop 1) with | none => none | some (xs, t) => some (((2 : Int) :: r.take 1) :: xs, t)) = some (c, t) := h
      split at h
      · cases h
      · rename_i hn
        obtain ⟨a, t', rfl⟩ := len1 hn
        cases e : PyFlat.rows 1 ((a :: t').drop 1) with
        | none => rw [e] at h; cases h
        | some y =>
          obtain ⟨xs, t2⟩ := y
          rw [e] at h
          obtain ⟨x, rfl, hx⟩ := rows1 e
          simp only [Option.some.injEq, Prod.mk.injEq] at h
          obtain ⟨rfl, rfl⟩ := h
          have e2 : t' = (x.length : Int) :: (x ++ t2) := row_some hx
          rw [e2]
          exact .load a x t2
    by_cases h3 : p = 3
    · subst h3
      obtain ⟨hn, e⟩ := go0 (n := 2) h
      obtain ⟨a, b, t', rfl⟩ := len2 hn
      cases e
      exact .look a b t'
    by_cases h4 : p = 4
    · subst h4
      obtain ⟨hn, e⟩ := go0 (n := 2) h
      obtain ⟨a, b, t', rfl⟩ := len2 hn
      cases e
      exact .key a b t'
    by_cases h5 : p = 5
    · subst h5
      obtain ⟨hn, e⟩ := go0 (n := 0) h
      cases e
      exact .tick r
    by_cases h6 : p = 6
    · subst h6
      obtain ⟨hn, e⟩ := go0 (n := 1) h
      obtain ⟨a, t', rfl⟩ := len1 hn
      cases e
      exact .run a t'
    by_cases h7 : p = 7
    · subst h7
      obtain ⟨hn, e⟩ := go0 (n := 0) h
      cases e
      exact .why r
    by_cases h8 : p = 8
    · subst h8
      obtain ⟨hn, e⟩ := go0 (n := 1) h
      obtain ⟨a, t', rfl⟩ := len1 hn
      cases e
      exact .get a t'
    by_cases h9 : p = 9
    · subst h9
      obtain ⟨hn, e⟩ := go0 (n := 2) h
      obtain ⟨a, b, t', rfl⟩ := len2 hn
      cases e
      exact .set a b t'
    by_cases h10 : p = 10
    · subst h10
      obtain ⟨hn, e⟩ := go0 (n := 0) h
      cases e
      exact .screen r
    · have e : PySz36.shape p = none := by
        unfold PySz36.shape
        simp only [h1, h2, h3, h4, h5, h6, h7, h8, h9, h10, if_false]
      rw [e] at h
      cases h
/-- what is still to come: the calls behind place k, the machine's state, what has been told -/
def Rest (ns : List Int) (k : Nat) (s : Sz36.St) (out : List Int) : Prop :=
  ∃ f cs, PyFlat.calls PySz36.shape f (ns.drop k) = some cs ∧ (∀ c ∈ cs, Sz36Neutral.asked1 (PySz36.whole c) = true) ∧ cs.length ≤ 200 ∧ out.length ≤ (200 - cs.length) * 5000 ∧
    PySz36.answers ns = out ++ PyFlat.told (PyFlat.played Sz36Neutral.step s (cs.map PySz36.whole))
theorem Rest.start {ns : List Int} (h : PySz36.answers_asked ns = true) : Rest ns 0 Sz36Neutral.start [] := by
  unfold PySz36.answers_asked PySz36.calls at h
  unfold Rest PySz36.answers PySz36.calls
  cases e : PyFlat.calls PySz36.shape ns.length ns with
  | none => rw [e] at h; cases h
  | some cs =>
    rw [e] at h
    simp only [Bool.and_eq_true, PyFlat.atMost, Sz36Neutral.asked, decide_eq_true_eq, List.length_map, List.all_map, List.all_eq_true] at h
    refine ⟨ns.length, cs, by rw [List.drop_zero]; exact e, fun c hc => h.2.1.1 c hc, h.1, Nat.zero_le _, ?_⟩
    simp
/-- the first call is a clear -/
theorem Rest.first {ns : List Int} (h : PySz36.answers_asked ns = true) : ∃ a t, ns = 1 :: a :: t := by
  unfold PySz36.answers_asked PySz36.calls at h
  cases ns with
  | nil => simp [PyFlat.calls, Sz36Neutral.asked] at h
  | cons p r =>
    cases e : PyFlat.calls PySz36.shape (p :: r).length (p :: r) with
    | none => rw [e] at h; cases h
    | some cs =>
      rw [e] at h
      simp only [Bool.and_eq_true, Sz36Neutral.asked] at h
      have e : PyFlat.calls PySz36.shape (r.length + 1) (p :: r) = some cs := e
      unfold PyFlat.calls at e
      cases e2 : PyFlat.call PySz36.shape (p :: r) with
      | none => simp [e2] at e
      | some y =>
        obtain ⟨c, t⟩ := y
        simp only [e2] at e
        cases e3 : PyFlat.calls PySz36.shape r.length t with
        | none => simp [e3] at e
        | some cs' =>
          simp only [e3, Option.some.injEq] at e
          subst e
          have hh := h.2.2
          cases call_cal e2 <;> first | exact ⟨_, _, rfl⟩ | (exfalso; simp [PySz36.whole] at hh)
theorem Rest.done {ns : List Int} {k : Nat} {s : Sz36.St} {out : List Int} (h : Rest ns k s out) (hk : ns.length ≤ k) : PySz36.answers ns = out := by
  obtain ⟨f, cs, h1, _, _, _, h2⟩ := h
  rw [List.drop_eq_nil_of_le hk] at h1
  have e : cs = [] := by cases f <;> exact (Option.some.inj h1).symm
  subst e
  rw [h2]
  simp [PyFlat.played, PyFlat.told]
theorem Cal.len {l : List Int} {c : List (List Int)} {t : List Int} (h : Cal l c t) : t.length < l.length := by
  cases h <;> simp <;> omega
theorem Cal.split {l : List Int} {c : List (List Int)} {t : List Int} (h : Cal l c t) : t = l.drop (l.length - t.length) := by
  have go : ∀ (x y : List Int), y = (x ++ y).drop ((x ++ y).length - y.length) := fun x y => by
    rw [List.length_append, Nat.add_sub_cancel, List.drop_left]
  cases h with
  | clear a t => exact go [1, a] t
  | load a b t => exact go (2 :: a :: (b.length : Int) :: b) t
  | look a n t => exact go [3, a, n] t
  | key a n t => exact go [4, a, n] t
  | tick t => exact go [5] t
  | run a t => exact go [6, a] t
  | why t => exact go [7] t
  | get a t => exact go [8, a] t
  | set a n t => exact go [9, a, n] t
  | screen t => exact go [10] t
/-- one call more -/
theorem Rest.step {ns : List Int} {k : Nat} {s : Sz36.St} {out : List Int} (h : Rest ns k s out) (hk : k < ns.length) :
    ∃ c t, Cal (ns.drop k) c t ∧ Sz36Neutral.asked1 (PySz36.whole c) = true ∧ out.length ≤ 1000000 - 5000 ∧
      ((Sz36Neutral.step s (PySz36.whole c)).2.length < 5000 → Rest ns (ns.length - t.length) (Sz36Neutral.step s (PySz36.whole c)).1 (out ++ ((Sz36Neutral.step s (PySz36.whole c)).2.length : Int) :: (Sz36Neutral.step s (PySz36.whole c)).2)) := by
  obtain ⟨f, cs, h1, h2, h3, h4, h5⟩ := h
  obtain ⟨p, r, hd⟩ : ∃ p r, ns.drop k = p :: r := by
    cases e : ns.drop k with
    | nil => have := List.drop_eq_nil_iff.mp e; omega
    | cons p r => exact ⟨p, r, rfl⟩
  rw [hd] at h1
  cases f with
  | zero => cases h1
  | succ f =>
    unfold PyFlat.calls at h1
    cases e : PyFlat.call PySz36.shape (p :: r) with
    | none => simp [e] at h1
    | some y =>
      obtain ⟨c, t⟩ := y
      simp only [e] at h1
      cases e2 : PyFlat.calls PySz36.shape f t with
      | none => simp [e2] at h1
      | some cs' =>
        simp only [e2, Option.some.injEq] at h1
        subst h1
        have hc := call_cal e
        rw [hd]
        simp only [List.length_cons] at h3 h4
        refine ⟨c, t, hc, h2 c (List.mem_cons_self ..), by omega, fun hl => ⟨f, cs', ?_, fun d hdm => h2 d (List.mem_cons_of_mem _ hdm), by omega, ?_, ?_⟩⟩
        · have e3 : t = (p :: r).drop ((p :: r).length - t.length) := hc.split
          have l1 := hc.len
          have l2 : (ns.drop k).length = (p :: r).length := by rw [hd]
          rw [List.length_drop] at l2
          have e4 : ns.drop (ns.length - t.length) = t := by
            have e5 : ns.length - t.length = k + ((p :: r).length - t.length) := by omega
            rw [e5, ← List.drop_drop, hd]
            exact e3.symm
          rw [e4]
          exact e2
        · simp only [List.length_append, List.length_cons]
          omega
        · rw [h5]
          simp [PyFlat.played, PyFlat.told]
end Sg
end
section
set_option Elab.async false
set_option linter.all false
set_option maxRecDepth 100000
set_option maxHeartbeats 2000000
namespace Sg
/-! ### rows of points as numbers -/
/-- the points f 0 .. f (w - 1), the first the highest bit -/
def num (f : Nat → Bool) : Nat → Nat
  | 0 => 0
  | n + 1 => 2 * num f n + (f n).toNat
theorem num_lt (f : Nat → Bool) : ∀ w, num f w < 2 ^ w
  | 0 => by simp [num]
  | n + 1 => by
    have := num_lt f n
    have h : (f n).toNat ≤ 1 := by cases f n <;> decide
    rw [num, Nat.pow_succ]
    omega
theorem tb_div (a n i : Nat) : (a / 2 ^ n).testBit i = a.testBit (n + i) := by rw [Nat.testBit_div_two_pow, Nat.add_comm]
theorem num_bit (f : Nat → Bool) : ∀ w k, (num f w).testBit k = (decide (k < w) && f (w - 1 - k))
  | 0, k => by simp [num]
  | n + 1, 0 => by
    rw [num, Nat.testBit_zero]
    cases h : f n <;> simp [h, Nat.add_mod, Nat.mul_mod]
  | n + 1, k + 1 => by
    rw [num, Nat.testBit_succ]
    have e : (2 * num f n + (f n).toNat) / 2 = num f n := by
      have h : (f n).toNat ≤ 1 := by cases f n <;> decide
      omega
    rw [e, num_bit f n k]
    have e2 : n + 1 - 1 - (k + 1) = n - 1 - k := by omega
    have e3 : (k + 1 < n + 1) = (k < n) := by simp
    rw [e2]
    simp only [e3]
theorem num_ext {f g : Nat → Bool} {w : Nat} (h : ∀ x, x < w → f x = g x) : num f w = num g w := by
  apply Nat.eq_of_testBit_eq
  intro k
  rw [num_bit, num_bit]
  by_cases hk : k < w
  · rw [h (w - 1 - k) (by omega)]
  · simp [hk]
theorem num_of {a : Nat} {f : Nat → Bool} {w : Nat} (ha : a < 2 ^ w) (h : ∀ x, x < w → f x = a.testBit (w - 1 - x)) : num f w = a := by
  apply Nat.eq_of_testBit_eq
  intro k
  rw [num_bit]
  by_cases hk : k < w
  · rw [h (w - 1 - k) (by omega), show w - 1 - (w - 1 - k) = k by omega]
    simp [hk]
  · rw [Nat.testBit_lt_two_pow (Nat.lt_of_lt_of_le ha (Nat.pow_le_pow_right (by decide) (by omega)))]
    simp [hk]
theorem num_false (w : Nat) : num (fun _ => false) w = 0 := num_of (Nat.two_pow_pos w) (by intro x _; simp)
theorem num_xor (f g : Nat → Bool) (w : Nat) : num (fun x => f x != g x) w = num f w ^^^ num g w := by
  apply Nat.eq_of_testBit_eq
  intro k
  rw [Nat.testBit_xor, num_bit, num_bit, num_bit]
  by_cases hk : k < w
  · simp [hk]
  · simp [hk]
theorem num_and (f g : Nat → Bool) (w : Nat) : num (fun x => f x && g x) w = num f w &&& num g w := by
  apply Nat.eq_of_testBit_eq
  intro k
  rw [Nat.testBit_and, num_bit, num_bit, num_bit]
  by_cases hk : k < w
  · simp [hk]
  · simp [hk]
theorem num_zero {f : Nat → Bool} {w : Nat} : num f w = 0 ↔ ∀ x, x < w → f x = false := by
  constructor
  · intro h x hx
    have e := num_bit f w (w - 1 - x)
    rw [h, show w - 1 - (w - 1 - x) = x by omega] at e
    simp at e
    exact e (by omega)
  · intro h
    rw [num_ext (g := fun _ => false) h, num_false]
/-- to the right -/
theorem num_right (f : Nat → Bool) (w d : Nat) : num (fun x => decide (d ≤ x) && f (x - d)) w = num f w / 2 ^ d := by
  apply num_of
  · exact Nat.lt_of_le_of_lt (Nat.div_le_self ..) (num_lt f w)
  · intro x hx
    rw [tb_div, num_bit]
    by_cases h : d ≤ x
    · simp only [h, decide_true, Bool.true_and]
      rw [show w - 1 - (d + (w - 1 - x)) = x - d by omega, decide_eq_true (show d + (w - 1 - x) < w by omega)]
      simp
    · simp only [h, decide_false, Bool.false_and]
      rw [decide_eq_false (show ¬ d + (w - 1 - x) < w by omega)]
      simp
/-- to the left -/
theorem num_left (f : Nat → Bool) (w d : Nat) : num (fun x => decide (x + d < w) && f (x + d)) w = num f w * 2 ^ d % 2 ^ w := by
  apply num_of
  · exact Nat.mod_lt _ (Nat.two_pow_pos w)
  · intro x hx
    rw [Nat.testBit_mod_two_pow, Nat.mul_comm, Nat.testBit_two_pow_mul, num_bit]
    rw [decide_eq_true (show w - 1 - x < w by omega)]
    by_cases h : x + d < w
    · rw [decide_eq_true h, decide_eq_true (show w - 1 - x ≥ d by omega), decide_eq_true (show w - 1 - x - d < w by omega), show w - 1 - (w - 1 - x - d) = x + d by omega]
      simp
    · rw [decide_eq_false h]
      by_cases h2 : w - 1 - x ≥ d
      · exfalso; omega
      · rw [decide_eq_false h2]
        simp
/-- a part of it -/
theorem num_part (f : Nat → Bool) {w a n : Nat} (h : a + n ≤ w) : num (fun k => f (a + k)) n = num f w / 2 ^ (w - a - n) % 2 ^ n := by
  apply num_of
  · exact Nat.mod_lt _ (Nat.two_pow_pos n)
  · intro x hx
    rw [Nat.testBit_mod_two_pow, tb_div, num_bit]
    rw [decide_eq_true (show n - 1 - x < n by omega), decide_eq_true (show w - a - n + (n - 1 - x) < w by omega), show w - 1 - (w - a - n + (n - 1 - x)) = a + x by omega]
    simp
/-- n bits of b, laid from column x0 on, clipped at the right -/
theorem num_lay {b n : Nat} (hb : b < 2 ^ n) (w x0 : Nat) : num (fun x => decide (x0 ≤ x) && (decide (x < x0 + n) && b.testBit (n - 1 - (x - x0)))) w = b * 2 ^ w / 2 ^ (x0 + n) := by
  apply num_of
  · apply Nat.div_lt_of_lt_mul
    rw [Nat.pow_add, Nat.mul_comm]
    have h1 : 2 ^ w * b < 2 ^ w * 2 ^ n := Nat.mul_lt_mul_of_pos_left hb (Nat.two_pow_pos w)
    have h2 : 2 ^ w * 2 ^ n ≤ 2 ^ x0 * 2 ^ n * 2 ^ w := by
      rw [Nat.mul_comm (2 ^ w)]
      have := Nat.mul_le_mul_right (2 ^ n * 2 ^ w) (Nat.one_le_two_pow (n := x0))
      rw [Nat.one_mul] at this
      rw [Nat.mul_assoc]
      exact this
    omega
  · intro x hx
    rw [tb_div, Nat.mul_comm b, Nat.testBit_two_pow_mul]
    by_cases h1 : x0 ≤ x
    · by_cases h2 : x < x0 + n
      · simp only [h1, h2, decide_true, Bool.true_and]
        rw [decide_eq_true (show x0 + n + (w - 1 - x) ≥ w by omega), show x0 + n + (w - 1 - x) - w = n - 1 - (x - x0) by omega]
        simp
      · simp only [h1, h2, decide_true, decide_false, Bool.true_and, Bool.false_and]
        rw [decide_eq_false (show ¬ x0 + n + (w - 1 - x) ≥ w by omega)]
        simp
    · simp only [h1, decide_false, Bool.false_and]
      have h3 : x0 + n + (w - 1 - x) - w ≥ n := by omega
      rw [Nat.testBit_lt_two_pow (Nat.lt_of_lt_of_le hb (Nat.pow_le_pow_right (by decide) h3))]
      simp
/-- the specification's way of putting eight points in a byte -/
theorem fold_num (f : Nat → Bool) : ∀ w, (List.range w).foldl (fun v k => 2 * v + (f k).toNat) 0 = num f w
  | 0 => rfl
  | n + 1 => by rw [List.range_succ, List.foldl_append, fold_num f n]; rfl
/-! ### tables -/
/-- the numbers f 0 .. f (n - 1) -/
def tab (n : Nat) (f : Nat → Nat) : List Int := (List.range n).map fun j => ((f j : Nat) : Int)
theorem tab_len (n : Nat) (f : Nat → Nat) : (tab n f).length = n := by simp [tab]
theorem tab_get {n j : Nat} (f : Nat → Nat) (h : j < n) : (tab n f)[j]? = some ((f j : Nat) : Int) := by simp [tab, h]
theorem tab_getD {n j : Nat} (f : Nat → Nat) (h : j < n) : (tab n f).getD j 0 = ((f j : Nat) : Int) := by rw [List.getD_eq_getElem?_getD, tab_get f h]; rfl
theorem tab_ext {n : Nat} {f g : Nat → Nat} (h : ∀ j, j < n → f j = g j) : tab n f = tab n g := by
  unfold tab
  apply List.map_congr_left
  intro j hj
  rw [h j (List.mem_range.mp hj)]
theorem tab_set {n j : Nat} (f : Nat → Nat) (v : Nat) (h : j < n) : (tab n f).set j (v : Int) = tab n fun k => if k = j then v else f k := by
  apply List.ext_getElem?
  intro i
  by_cases hi : i < n
  · rw [tab_get _ hi]
    by_cases e : i = j
    · subst e
      rw [List.getElem?_set_self (by rw [tab_len]; exact h), if_pos rfl]
    · rw [List.getElem?_set_ne (fun q => e q.symm), tab_get _ hi, if_neg e]
  · rw [List.getElem?_eq_none (by rw [List.length_set, tab_len]; omega), List.getElem?_eq_none (by rw [tab_len]; omega)]
theorem tab_cut {n a k : Nat} (f : Nat → Nat) (h : a + k ≤ n) : ((tab n f).drop a).take k = tab k fun i => f (a + i) := by
  apply List.ext_getElem?
  intro i
  by_cases hi : i < k
  · rw [List.getElem?_take_of_lt hi, List.getElem?_drop, tab_get _ (by omega), tab_get _ hi]
  · rw [List.getElem?_eq_none (by rw [List.length_take]; omega), List.getElem?_eq_none (by rw [tab_len]; omega)]
theorem tab_map {n : Nat} (f g : Nat → Nat) (h : Int → Int) (e : ∀ j, j < n → h (f j) = (g j : Nat)) : (tab n f).map h = tab n g := by
  unfold tab
  rw [List.map_map]
  apply List.map_congr_left
  intro j hj
  exact e j (List.mem_range.mp hj)
theorem tab_rep (n : Nat) : List.replicate n (0 : Int) = tab n fun _ => 0 := by
  apply List.ext_getElem?
  intro i
  by_cases hi : i < n
  · rw [tab_get _ hi, List.getElem?_replicate, if_pos hi]; rfl
  · rw [List.getElem?_eq_none (by rw [List.length_replicate]; omega), List.getElem?_eq_none (by rw [tab_len]; omega)]
/-- n rows down -/
theorem tab_down {h n : Nat} (f : Nat → Nat) (hn : n ≤ h) : List.replicate n (0 : Int) ++ (tab h f).take (h - n) = tab h fun y => if n ≤ y then f (y - n) else 0 := by
  apply List.ext_getElem?
  intro i
  by_cases hi : i < h
  · rw [tab_get _ hi]
    by_cases e : n ≤ i
    · rw [List.getElem?_append_right (by rw [List.length_replicate]; exact e), List.length_replicate, List.getElem?_take_of_lt (by omega), tab_get _ (by omega), if_pos e]
    · rw [List.getElem?_append_left (by rw [List.length_replicate]; omega), List.getElem?_replicate, if_pos (by omega), if_neg e]; rfl
  · rw [List.getElem?_eq_none (by rw [List.length_append, List.length_replicate, List.length_take, tab_len]; omega), List.getElem?_eq_none (by rw [tab_len]; omega)]
end Sg
end
section
set_option Elab.async false
set_option linter.all false
set_option maxRecDepth 100000
set_option maxHeartbeats 2000000
namespace Sg
open Sz36 (St)
/-- what the machine holds -/
structure MS where
  mem : List Int
  regs : List Int
  aside : List Int
  i : Int
  pc : Int
  places : List Int
  wait : Int
  sound : Int
  pressed : List Int
  chance : Int
  large : Int
  rows : List Int
  why : Int
def intsL (l : List Nat) : List Int := l.map fun (n : Nat) => (n : Int)
theorem ints_len (l : List Nat) : (intsL l).length = l.length := by simp [intsL]
theorem ints_get (l : List Nat) (j : Nat) : (intsL l)[j]? = (l[j]?).map fun (n : Nat) => (n : Int) := by simp [intsL]
theorem ints_set (l : List Nat) (j v : Nat) : (intsL l).set j (v : Int) = intsL (l.set j v) := by simp [intsL, List.map_set]
/-- the row y of the screen -/
def rowOf (s : St) (y : Nat) : Nat := num (fun x => s.lit x y) (Sz36.wide s)
/-- the program's machine stands for the specification's state -/
structure R (m : MS) (s : St) : Prop where
  mem : m.mem = tab 4096 s.mem
  memB : ∀ j, s.mem j < 256
  regs : m.regs = intsL s.v
  regsL : s.v.length = 16
  regsB : ∀ x ∈ s.v, x < 256
  aside : m.aside = intsL s.aside
  asideL : s.aside.length = 8
  asideB : ∀ x ∈ s.aside, x < 256
  i : m.i = s.i
  iB : s.i < 65536
  pc : m.pc = s.pc
  pcB : s.pc < 4096
  places : m.places = intsL s.back_.reverse
  placesL : s.back_.length ≤ 16
  placesB : ∀ x ∈ s.back_, x < 4096
  wait : m.wait = s.wait
  waitB : s.wait < 256
  sound : m.sound = s.sound
  soundB : s.sound < 256
  pressed : m.pressed = tab 16 fun k => (s.keys k).toNat
  chance : m.chance = s.chance
  chanceB : s.chance < 2 ^ 32
  large : m.large = if s.large = true then 1 else 0
  rows : m.rows = tab (Sz36.high s) (rowOf s)
section
variable {m : MS} {s : St}
theorem regB (h : R m s) (k : Nat) : s.reg k < 256 := by
  unfold St.reg
  rw [List.getD_eq_getElem?_getD]
  cases e : s.v[k % 16]? with
  | none => decide
  | some x => exact h.regsB x (List.mem_of_getElem? e)
theorem R.reg (h : R m s) {k : Nat} (hk : k < 16) : m.regs[k]? = some ((s.reg k : Nat) : Int) := by
  rw [h.regs, ints_get]
  unfold St.reg
  rw [Nat.mod_eq_of_lt hk, List.getD_eq_getElem?_getD]
  have : k < s.v.length := by rw [h.regsL]; exact hk
  rw [List.getElem?_eq_getElem this]
  rfl
theorem R.getMem (h : R m s) {k : Nat} (hk : k < 4096) : m.mem[k]? = some ((s.get k : Nat) : Int) := by
  rw [h.mem, tab_get _ hk]
  unfold St.get
  rw [Nat.mod_eq_of_lt hk]
theorem getB (h : R m s) (k : Nat) : s.get k < 256 := h.memB _
theorem mem_set_lt {l : List Nat} {j v b : Nat} (h : ∀ x ∈ l, x < b) (hv : v < b) : ∀ x ∈ l.set j v, x < b := fun x hx => by
  rcases List.mem_or_eq_of_mem_set hx with e | e
  · exact h x e
  · rw [e]; exact hv
/-! #### what the specification's small steps do to the machine -/
theorem R.set (h : R m s) {x : Nat} (hx : x < 16) (v : Nat) : R { m with regs := m.regs.set x ((v % 256 : Nat) : Int) } (s.set x v) := by
  refine { h with regs := ?_, regsL := ?_, regsB := ?_ }
  · show m.regs.set x _ = intsL (s.v.set (x % 16) (v % 256))
    rw [h.regs, ints_set, Nat.mod_eq_of_lt hx]
  · show (s.v.set (x % 16) (v % 256)).length = 16
    rw [List.length_set]; exact h.regsL
  · exact mem_set_lt h.regsB (Nat.mod_lt _ (by decide))
theorem R.put (h : R m s) (a v : Nat) : R { m with mem := m.mem.set (a % 4096) ((v % 256 : Nat) : Int) } (s.put a v) := by
  refine { h with mem := ?_, memB := ?_ }
  · show m.mem.set _ _ = tab 4096 _
    rw [h.mem, tab_set _ _ (Nat.mod_lt _ (by decide))]
    rfl
  · intro j
    show (if j = a % 4096 then v % 256 else s.mem j) < 256
    split
    · exact Nat.mod_lt _ (by decide)
    · exact h.memB j
theorem R.jump (h : R m s) (a : Nat) : R { m with pc := ((a % 4096 : Nat) : Int) } (s.jump a) := { h with pc := rfl, pcB := Nat.mod_lt _ (by decide) }
theorem R.setI (h : R m s) {a : Nat} (ha : a < 65536) : R { m with i := (a : Int) } { s with i := a } := { h with i := rfl, iB := ha }
theorem R.setWait (h : R m s) {a : Nat} (ha : a < 256) : R { m with wait := (a : Int) } { s with wait := a } := { h with wait := rfl, waitB := ha }
theorem R.setSound (h : R m s) {a : Nat} (ha : a < 256) : R { m with sound := (a : Int) } { s with sound := a } := { h with sound := rfl, soundB := ha }
theorem R.setChance (h : R m s) {a : Nat} (ha : a < 2 ^ 32) : R { m with chance := (a : Int) } { s with chance := a } := { h with chance := rfl, chanceB := ha }
theorem R.setWhy (h : R m s) (a : Nat) : R m { s with why := a } := { h with }
theorem R.dark (h : R m s) : R { m with rows := List.replicate (Sz36.high s) 0 } (Sz36.dark s) := by
  refine { h with rows := ?_ }
  show List.replicate (Sz36.high s) (0 : Int) = tab (Sz36.high s) (rowOf (Sz36.dark s))
  rw [tab_rep]
  apply tab_ext
  intro y _
  exact (num_false _).symm
theorem R.size (h : R m s) (b : Bool) : R { m with large := if b = true then 1 else 0, rows := List.replicate (if b = true then 64 else 32) 0 } (Sz36.dark { s with large := b }) := by
  refine { h with large := rfl, rows := ?_ }
  show List.replicate (if b = true then 64 else 32) (0 : Int) = tab (if b = true then 64 else 32) (rowOf (Sz36.dark { s with large := b }))
  rw [tab_rep]
  apply tab_ext
  intro y _
  exact (num_false _).symm
/-- the screen four columns to the right -/
theorem R.right (h : R m s) : R { m with rows := tab (Sz36.high s) fun y => rowOf s y / 2 ^ 4 } (Sz36.moved s 4 0) := by
  refine { h with rows := ?_ }
  show tab (Sz36.high s) _ = tab (Sz36.high s) (rowOf (Sz36.moved s 4 0))
  apply tab_ext
  intro y hy
  unfold rowOf
  rw [← num_right]
  apply num_ext
  intro x hx
  show _ = (decide (0 ≤ ((x : Int) - 4)) && (decide ((x : Int) - 4 < (Sz36.wide s : Nat)) && (decide (0 ≤ y) && (decide (x < Sz36.wide s) && (decide (y < Sz36.high s) && s.lit ((x : Int) - 4).toNat (y - 0))))))
  have hx : x < Sz36.wide s := hx
  by_cases h4 : 4 ≤ x
  · rw [decide_eq_true h4, decide_eq_true (show 0 ≤ (x : Int) - 4 by omega), decide_eq_true (show (x : Int) - 4 < (Sz36.wide s : Nat) by omega), decide_eq_true hx, decide_eq_true hy, show ((x : Int) - 4).toNat = x - 4 by omega]
    simp
  · rw [decide_eq_false h4, decide_eq_false (show ¬ 0 ≤ (x : Int) - 4 by omega)]
    simp
theorem R.left (h : R m s) : R { m with rows := tab (Sz36.high s) fun y => rowOf s y * 2 ^ 4 % 2 ^ Sz36.wide s } (Sz36.moved s (-4) 0) := by
  refine { h with rows := ?_ }
  show tab (Sz36.high s) _ = tab (Sz36.high s) (rowOf (Sz36.moved s (-4) 0))
  apply tab_ext
  intro y hy
  unfold rowOf
  rw [← num_left]
  apply num_ext
  intro x hx
  show _ = (decide (0 ≤ ((x : Int) - (-4))) && (decide ((x : Int) - (-4) < (Sz36.wide s : Nat)) && (decide (0 ≤ y) && (decide (x < Sz36.wide s) && (decide (y < Sz36.high s) && s.lit ((x : Int) - (-4)).toNat (y - 0))))))
  have hx : x < Sz36.wide s := hx
  by_cases h4 : x + 4 < Sz36.wide s
  · rw [decide_eq_true h4, decide_eq_true (show 0 ≤ (x : Int) - (-4) by omega), decide_eq_true (show (x : Int) - (-4) < (Sz36.wide s : Nat) by omega), decide_eq_true hx, decide_eq_true hy, show ((x : Int) - (-4)).toNat = x + 4 by omega]
    simp
  · rw [decide_eq_false h4, decide_eq_false (show ¬ (x : Int) - (-4) < (Sz36.wide s : Nat) by omega)]
    simp
theorem R.down (h : R m s) (n : Nat) : R { m with rows := tab (Sz36.high s) fun y => if n ≤ y then rowOf s (y - n) else 0 } (Sz36.moved s 0 n) := by
  refine { h with rows := ?_ }
  show tab (Sz36.high s) _ = tab (Sz36.high s) (rowOf (Sz36.moved s 0 n))
  apply tab_ext
  intro y hy
  unfold rowOf
  have key : ∀ x, (Sz36.moved s 0 n).lit x y = (decide (0 ≤ ((x : Int) - 0)) && (decide ((x : Int) - 0 < (Sz36.wide s : Nat)) && (decide (n ≤ y) && (decide (x < Sz36.wide s) && (decide (y < Sz36.high s) && s.lit ((x : Int) - 0).toNat (y - n)))))) := fun x => rfl
  split
  · rename_i hn
    apply num_ext
    intro x hx
    have hx : x < Sz36.wide s := hx
    rw [key, decide_eq_true (show 0 ≤ (x : Int) - 0 by omega), decide_eq_true (show (x : Int) - 0 < (Sz36.wide s : Nat) by omega), decide_eq_true hn, decide_eq_true hx, decide_eq_true hy, show ((x : Int) - 0).toNat = x by omega]
    simp
  · rename_i hn
    rw [← num_false (Sz36.wide (Sz36.moved s 0 n))]
    apply num_ext
    intro x hx
    rw [key, decide_eq_false hn]
    simp
/-! #### a shape -/
/-- row r of a shape, as a number of n bits -/
def shapeRow (s : St) (big : Bool) (r : Nat) : Nat := if big = true then 256 * s.get (s.i + 2 * r) + s.get (s.i + 2 * r + 1) else s.get (s.i + r)
theorem bit_lo {a b k : Nat} (hb : b < 256) (hk : k < 8) : (256 * a + b).testBit k = b.testBit k := by
  have e : 256 * a + b = 2 ^ 8 * a + b := by omega
  rw [e, Nat.testBit_two_pow_mul_add a (by omega), if_pos hk]
theorem bit_hi {a b k : Nat} (hb : b < 256) (hk : 8 ≤ k) : (256 * a + b).testBit k = a.testBit (k - 8) := by
  have e : 256 * a + b = 2 ^ 8 * a + b := by omega
  rw [e, Nat.testBit_two_pow_mul_add a (by omega), if_neg (by omega)]
theorem shape_point (h : R m s) (big : Bool) {x r : Nat} (hx : x < if big = true then 16 else 8) : Sz36.point s big x r = (shapeRow s big r).testBit ((if big = true then 16 else 8) - 1 - x) := by
  unfold Sz36.point shapeRow
  cases big with
  | false =>
    simp at hx ⊢
  | true =>
    simp at hx ⊢
    have b1 := getB h (s.i + 2 * r + 1)
    by_cases hx8 : x < 8
    · rw [bit_hi b1 (by omega), show x / 8 = 0 by omega, Nat.add_zero, show 7 - x % 8 = 15 - x - 8 by omega]
    · rw [bit_lo b1 (by omega), show x / 8 = 1 by omega, show 7 - x % 8 = 15 - x by omega]
theorem shapeRow_lt (h : R m s) (big : Bool) (r : Nat) : shapeRow s big r < 2 ^ (if big = true then 16 else 8) := by
  unfold shapeRow
  cases big with
  | false => exact getB h _
  | true =>
    have b1 := getB h (s.i + 2 * r)
    have b2 := getB h (s.i + 2 * r + 1)
    show 256 * s.get (s.i + 2 * r) + s.get (s.i + 2 * r + 1) < 65536
    omega
/-- what a shape laid at x0, y0 turns in the row y -/
def laidRow (s : St) (x0 y0 rows : Nat) (big : Bool) (y : Nat) : Nat :=
  if y0 ≤ y ∧ y < y0 + rows then shapeRow s big (y - y0) * 2 ^ Sz36.wide s / 2 ^ (x0 + if big = true then 16 else 8) else 0
theorem laid_on (h : R m s) (x0 y0 rows : Nat) (big : Bool) {y : Nat} (hy : y < Sz36.high s) :
    num (fun x => decide (x0 ≤ x) && (decide (x < x0 + if big = true then 16 else 8) && (decide (x < Sz36.wide s) && (decide (y0 ≤ y) && (decide (y < y0 + rows) && (decide (y < Sz36.high s) && Sz36.point s big (x - x0) (y - y0))))))) (Sz36.wide s) = laidRow s x0 y0 rows big y := by
  unfold laidRow
  by_cases hr : y0 ≤ y ∧ y < y0 + rows
  · rw [if_pos hr]
    rw [← num_lay (shapeRow_lt h big (y - y0))]
    apply num_ext
    intro x hx
    rw [decide_eq_true hx, decide_eq_true hr.1, decide_eq_true hr.2, decide_eq_true hy]
    by_cases h1 : x0 ≤ x
    · by_cases h2 : x < x0 + if big = true then 16 else 8
      · rw [decide_eq_true h1, decide_eq_true h2, shape_point h big (by omega)]
        simp
      · rw [decide_eq_false h2]
        simp
    · rw [decide_eq_false h1]
      simp
  · rw [if_neg hr]
    rw [← num_false (Sz36.wide s)]
    apply num_ext
    intro x hx
    by_cases h1 : y0 ≤ y
    · rw [decide_eq_false (show ¬ y < y0 + rows from fun z => hr ⟨h1, z⟩)]
      simp
    · rw [decide_eq_false h1]
      simp
/-- whether a point goes out -/
def hits (s : St) (x0 y0 rows : Nat) (big : Bool) : Bool := (List.range (Sz36.high s)).any fun y => laidRow s x0 y0 rows big y &&& rowOf s y != 0
theorem R.laid (h : R m s) (x y rows : Nat) (big : Bool) :
    R { m with rows := tab (Sz36.high s) (fun j => rowOf s j ^^^ laidRow s (x % Sz36.wide s) (y % Sz36.high s) rows big j), regs := m.regs.set 15 (if hits s (x % Sz36.wide s) (y % Sz36.high s) rows big = true then 1 else 0) } (Sz36.laid s x y rows big) := by
  generalize hx0 : x % Sz36.wide s = x0
  generalize hy0 : y % Sz36.high s = y0
  let on (u v : Nat) : Bool := decide (x0 ≤ u) && (decide (u < x0 + if big = true then 16 else 8) && (decide (u < Sz36.wide s) && (decide (y0 ≤ v) && (decide (v < y0 + rows) && (decide (v < Sz36.high s) && Sz36.point s big (u - x0) (v - y0))))))
  let hit : Bool := (List.range rows).any fun r => (List.range (if big = true then 16 else 8)).any fun c => on (x0 + c) (y0 + r) && s.lit (x0 + c) (y0 + r)
  have e : Sz36.laid s x y rows big = ({ s with lit := fun u v => s.lit u v != on u v } : St).set 15 hit.toNat := by
    unfold Sz36.laid
    rw [hx0, hy0]
  have ehit : hits s x0 y0 rows big = hit := by
    rw [Bool.eq_iff_iff]
    unfold hits
    rw [List.any_eq_true]
    constructor
    · rintro ⟨v, hv, hne⟩
      have hv := List.mem_range.mp hv
      rw [← laid_on h x0 y0 rows big hv] at hne
      unfold rowOf at hne
      rw [← num_and] at hne
      have hne : ¬ num (fun x => on x v && s.lit x v) (Sz36.wide s) = 0 := by
        intro q
        rw [bne_iff_ne] at hne
        exact hne q
      rw [num_zero] at hne
      have hne2 : ∃ u, u < Sz36.wide s ∧ (on u v && s.lit u v) = true := by
        apply Classical.byContradiction
        intro q
        apply hne
        intro u hu
        cases hh : (on u v && s.lit u v) with
        | false => rfl
        | true => exact (q ⟨u, hu, hh⟩).elim
      obtain ⟨u, hu, hb⟩ := hne2
      have ho : on u v = true := by
        rw [Bool.and_eq_true] at hb
        exact hb.1
      simp only [on, Bool.and_eq_true, decide_eq_true_eq] at ho
      rw [List.any_eq_true]
      refine ⟨v - y0, List.mem_range.mpr (by omega), ?_⟩
      rw [List.any_eq_true]
      refine ⟨u - x0, List.mem_range.mpr (by omega), ?_⟩
      rw [show x0 + (u - x0) = u by omega, show y0 + (v - y0) = v by omega]
      exact hb
    · intro hh
      rw [List.any_eq_true] at hh
      obtain ⟨r, hr, hh⟩ := hh
      rw [List.any_eq_true] at hh
      obtain ⟨c, hc, hh⟩ := hh
      have ho : on (x0 + c) (y0 + r) = true := by
        rw [Bool.and_eq_true] at hh
        exact hh.1
      simp only [on, Bool.and_eq_true, decide_eq_true_eq] at ho
      refine ⟨y0 + r, List.mem_range.mpr (by omega), ?_⟩
      rw [← laid_on h x0 y0 rows big (show y0 + r < Sz36.high s by omega)]
      unfold rowOf
      rw [← num_and]
      have : ¬ num (fun x => on x (y0 + r) && s.lit x (y0 + r)) (Sz36.wide s) = 0 := by
        rw [num_zero]
        intro q
        have := q (x0 + c) (by omega)
        rw [hh] at this
        cases this
      rw [bne_iff_ne]
      exact this
  rw [e, ehit]
  have h2 : R { m with rows := tab (Sz36.high s) (fun j => rowOf s j ^^^ laidRow s x0 y0 rows big j) } ({ s with lit := fun u v => s.lit u v != on u v } : St) := by
    refine { h with rows := ?_ }
    show tab (Sz36.high s) _ = tab (Sz36.high s) _
    apply tab_ext
    intro v hv
    rw [← laid_on h x0 y0 rows big hv]
    unfold rowOf
    rw [← num_xor]
    rfl
  have h3 := h2.set (x := 15) (by decide) hit.toNat
  have e3 : ((hit.toNat % 256 : Nat) : Int) = if hit = true then 1 else 0 := by cases hit <;> rfl
  rw [e3] at h3
  exact h3
end
end Sg
end
section
set_option Elab.async false
set_option linter.all false
set_option maxRecDepth 100000
set_option maxHeartbeats 2000000
namespace Sg
open Sz36 (St)
theorem take_snoc {α : Type} : ∀ {l : List α} {i : Nat} {x : α}, l[i]? = some x → l.take (i + 1) = l.take i ++ [x]
  | [], i, x, h => by simp at h
  | a :: l, 0, x, h => by
    have e : a = x := Option.some.inj h
    subst e
    rfl
  | a :: l, i + 1, x, h => by
    have ih := take_snoc (l := l) (i := i) (x := x) h
    show a :: l.take (i + 1) = a :: l.take i ++ [x]
    rw [ih]
    rfl
def fontZ : List Int := [240, 144, 144, 144, 240, 32, 96, 32, 32, 112, 240, 16, 240, 128, 240, 240, 16, 240, 16, 240, 144, 144, 240, 16, 16, 240, 128, 240, 16, 240, 240, 128, 240, 144, 240, 240, 16, 32, 64, 64, 240, 144, 240, 144, 240, 240, 144, 240, 16, 240, 240, 144, 240, 144, 144, 224, 144, 224, 144, 224, 240, 128, 128, 128, 240, 224, 144, 144, 144, 224, 240, 128, 240, 128, 240, 240, 128, 240, 128, 128]
theorem fontZ_ints : fontZ = intsL Sz36.font := by decide +kernel
theorem font_len : Sz36.font.length = 80 := by decide +kernel
theorem font_lt : ∀ x ∈ Sz36.font, x < 256 := by decide +kernel
theorem font_mem : fontZ ++ List.replicate (4096 - 80) (0 : Int) = tab 4096 fun j => Sz36.font.getD j 0 := by
  rw [fontZ_ints]
  apply List.ext_getElem?
  intro i
  by_cases hi : i < 4096
  · rw [tab_get _ hi]
    by_cases h8 : i < 80
    · rw [List.getElem?_append_left (by rw [ints_len, font_len]; exact h8), ints_get, List.getD_eq_getElem?_getD, List.getElem?_eq_getElem (by rw [font_len]; exact h8)]
      rfl
    · rw [List.getElem?_append_right (by rw [ints_len, font_len]; omega), ints_len, font_len, List.getElem?_replicate, if_pos (by omega), List.getD_eq_getElem?_getD, List.getElem?_eq_none (by rw [font_len]; omega)]
      rfl
  · rw [List.getElem?_eq_none (by rw [List.length_append, ints_len, font_len, List.length_replicate]; omega), List.getElem?_eq_none (by rw [tab_len]; omega)]
theorem ints_rep (n : Nat) : List.replicate n (0 : Int) = intsL (List.replicate n 0) := by simp [intsL]
/-- the machine as it is at first -/
def fresh (seed : Int) : MS where
  mem := fontZ ++ List.replicate (4096 - 80) 0
  regs := List.replicate 16 0
  aside := List.replicate 8 0
  i := 0
  pc := 512
  places := []
  wait := 0
  sound := 0
  pressed := List.replicate 16 0
  chance := if seed = 0 then 1 else seed
  large := 0
  rows := List.replicate 32 0
  why := 0
theorem R.fresh {seed : Int} (h0 : 0 ≤ seed) (h1 : seed < 2 ^ 32) : R (fresh seed) (Sz36.blank seed.toNat) where
  mem := font_mem
  memB := fun j => by
    show Sz36.font.getD j 0 < 256
    rw [List.getD_eq_getElem?_getD]
    cases e : Sz36.font[j]? with
    | none => decide
    | some x => exact font_lt x (List.mem_of_getElem? e)
  regs := ints_rep 16
  regsL := rfl
  regsB := by intro x hx; rw [List.eq_of_mem_replicate hx]; decide
  aside := ints_rep 8
  asideL := rfl
  asideB := by intro x hx; rw [List.eq_of_mem_replicate hx]; decide
  i := rfl
  iB := (by decide : 0 < 65536)
  pc := rfl
  pcB := (by decide : 512 < 4096)
  places := rfl
  placesL := (by decide : 0 ≤ 16)
  placesB := by intro x hx; cases hx
  wait := rfl
  waitB := (by decide : 0 < 256)
  sound := rfl
  soundB := (by decide : 0 < 256)
  pressed := tab_rep 16
  chance := by
    show (if seed = 0 then 1 else seed) = (((if seed.toNat % 2 ^ 32 = 0 then 1 else seed.toNat % 2 ^ 32) : Nat) : Int)
    have e : seed.toNat % 2 ^ 32 = seed.toNat := Nat.mod_eq_of_lt (by omega)
    rw [e]
    by_cases hs : seed = 0
    · rw [if_pos hs, if_pos (by omega)]; rfl
    · rw [if_neg hs, if_neg (by omega)]; omega
  chanceB := by
    show (if seed.toNat % 2 ^ 32 = 0 then 1 else seed.toNat % 2 ^ 32) < 2 ^ 32
    split
    · decide
    · exact Nat.mod_lt _ (by decide)
  large := rfl
  rows := by
    show List.replicate 32 (0 : Int) = tab 32 (rowOf (Sz36.blank seed.toNat))
    rw [tab_rep]
    apply tab_ext
    intro y _
    exact (num_false _).symm
section
variable {m : MS} {s : St}
/-! #### load and look -/
def octs (b : List Int) : List UInt8 := b.map fun n => UInt8.ofNat n.toNat
/-- the first k of the bytes b stored from at on -/
def stored (mem : List Int) (a : Nat) : List Int → List Int
  | [] => mem
  | x :: r => stored (mem.set a x) (a + 1) r
theorem R.load : ∀ (b : List Int) {m : MS} {s : St} (a : Nat), R m s → (∀ x ∈ b, 0 ≤ x ∧ x < 256) → a + b.length ≤ 4096 → R { m with mem := stored m.mem a b } (Sz36.putAll s a (Sz36Neutral.octets b))
  | [], m, s, a, h, _, _ => h
  | x :: r, m, s, a, h, hb, hl => by
    have hx := hb x (List.mem_cons_self ..)
    simp only [List.length_cons] at hl
    have h1 := h.put a ((UInt8.ofNat x.toNat).toNat)
    have e1 : (UInt8.ofNat x.toNat).toNat = x.toNat := by
      rw [UInt8.toNat_ofNat']
      exact Nat.mod_eq_of_lt (by omega)
    have e2 : (((UInt8.ofNat x.toNat).toNat % 256 : Nat) : Int) = x := by rw [e1]; omega
    rw [e2, Nat.mod_eq_of_lt (show a < 4096 by omega)] at h1
    have h2 := R.load r (a + 1) h1 (fun y hy => hb y (List.mem_cons_of_mem _ hy)) (by omega)
    exact h2
theorem stored_snoc : ∀ (b : List Int) (mem : List Int) (a : Nat) (x : Int), stored mem a (b ++ [x]) = (stored mem a b).set (a + b.length) x
  | [], _, _, _ => rfl
  | y :: r, mem, a, x => by
    show stored (mem.set a y) (a + 1) (r ++ [x]) = (stored (mem.set a y) (a + 1) r).set (a + (r.length + 1)) x
    rw [stored_snoc r]
    congr 1
    omega
theorem stored_len : ∀ (b : List Int) (mem : List Int) (a : Nat), (stored mem a b).length = mem.length
  | [], _, _ => rfl
  | y :: r, mem, a => by
    show (stored (mem.set a y) (a + 1) r).length = _
    rw [stored_len r, List.length_set]
theorem byteZ {n : Nat} (h : n < 256) : ((UInt8.ofNat n).toNat : Int) = n := by
  rw [UInt8.toNat_ofNat', Nat.mod_eq_of_lt h]
theorem R.look (h : R m s) {a n : Nat} (ha : a + n ≤ 4096) : ((List.range n).map fun i => UInt8.ofNat (s.get (a + i))).map (fun (b : UInt8) => (b.toNat : Int)) = (m.mem.drop a).take n := by
  rw [h.mem, tab_cut _ ha, List.map_map]
  unfold tab
  apply List.map_congr_left
  intro i hi
  have := List.mem_range.mp hi
  show ((UInt8.ofNat (s.get (a + i))).toNat : Int) = _
  rw [byteZ (getB h _)]
  unfold St.get
  rw [Nat.mod_eq_of_lt (by omega)]
/-! #### keys and timers -/
theorem R.key (h : R m s) {k d : Int} (hk : 0 ≤ k) (hk2 : k ≤ 15) (hd : 0 ≤ d) (hd2 : d ≤ 1) : R { m with pressed := m.pressed.set k.toNat d } { s with keys := fun j => if j = k.toNat then d == 1 else s.keys j } := by
  refine { h with pressed := ?_ }
  show m.pressed.set k.toNat d = tab 16 fun j => (if j = k.toNat then d == 1 else s.keys j).toNat
  have e : d = (((d == 1).toNat : Nat) : Int) := by
    by_cases e : d = 1
    · subst e; rfl
    · have : d = 0 := by omega
      subst this; rfl
  have e2 : m.pressed.set k.toNat d = m.pressed.set k.toNat (((d == 1).toNat : Nat) : Int) := congrArg _ e
  rw [e2, h.pressed, tab_set _ _ (by omega)]
  apply tab_ext
  intro j _
  split <;> rfl
theorem R.keyAt (h : R m s) {k : Nat} (hk : k < 16) : m.pressed[k]? = some (if s.keys k = true then 1 else 0) := by
  rw [h.pressed, tab_get _ hk]
  cases s.keys k <;> rfl
theorem R.tick (h : R m s) : R { m with wait := if 0 < m.wait then m.wait - 1 else 0, sound := if 0 < m.sound then m.sound - 1 else 0 } { s with wait := s.wait - 1, sound := s.sound - 1 } := by
  have h1 := h.waitB
  have h2 := h.soundB
  refine { h with wait := ?_, waitB := ?_, sound := ?_, soundB := ?_ }
  · show (if 0 < m.wait then m.wait - 1 else 0) = ((s.wait - 1 : Nat) : Int)
    rw [h.wait]; split <;> omega
  · show s.wait - 1 < 256; omega
  · show (if 0 < m.sound then m.sound - 1 else 0) = ((s.sound - 1 : Nat) : Int)
    rw [h.sound]; split <;> omega
  · show s.sound - 1 < 256; omega
/-! #### the places to come back to -/
theorem R.push (h : R m s) (hl : s.back_.length < 16) : R { m with places := m.places ++ [m.pc] } { s with back_ := s.pc :: s.back_ } := by
  refine { h with places := ?_, placesL := ?_, placesB := ?_ }
  · show m.places ++ [m.pc] = intsL (s.pc :: s.back_).reverse
    rw [h.places, h.pc, List.reverse_cons]
    simp [intsL]
  · show s.back_.length + 1 ≤ 16
    omega
  · intro x hx
    rcases List.mem_cons.mp hx with e | e
    · rw [e]; exact h.pcB
    · exact h.placesB x e
theorem R.pop (h : R m s) {p : Nat} {r : List Nat} (e : s.back_ = p :: r) : R { m with pc := (p : Int), places := m.places.dropLast } { s with pc := p, back_ := r } ∧ m.places[m.places.length - 1]? = some (p : Int) ∧ 0 < m.places.length := by
  have hp := h.places
  rw [e, List.reverse_cons] at hp
  have hp2 : m.places = intsL r.reverse ++ [(p : Int)] := by rw [hp]; simp [intsL]
  refine ⟨{ h with pc := rfl, pcB := h.placesB p (by rw [e]; exact List.mem_cons_self ..), places := ?_, placesL := ?_, placesB := ?_ }, ?_, ?_⟩
  · show m.places.dropLast = intsL r.reverse
    rw [hp2, List.dropLast_concat]
  · show r.length ≤ 16
    have := h.placesL
    rw [e, List.length_cons] at this
    omega
  · intro x hx
    exact h.placesB x (by rw [e]; exact List.mem_cons_of_mem _ hx)
  · rw [hp2, List.length_append, List.length_singleton, Nat.add_sub_cancel]
    simp
  · rw [hp2]; simp
theorem R.placesLen (h : R m s) : m.places.length = s.back_.length := by rw [h.places, ints_len, List.length_reverse]
/-! #### the lowest key that is down -/
theorem pressed_none (h : Sz36.pressed s = none) : ∀ k, k < 16 → s.keys k = false := by
  intro k hk
  unfold Sz36.pressed at h
  rw [List.find?_eq_none] at h
  have := h k (List.mem_range.mpr hk)
  simpa using this
/-- the first of the keys from k on that is down -/
theorem find_range {p : Nat → Bool} {n k : Nat} (hk : k < n) (hp : p k = true) (hb : ∀ j, j < k → p j = false) : (List.range n).find? p = some k := by
  rw [List.find?_range_eq_some]
  refine ⟨hp, List.mem_range.mpr hk, ?_⟩
  intro j hj
  rw [hb j hj]; rfl
/-! #### the screen told -/
theorem shown_eq (h : R m s) : (Sz36.shown s).map (fun (b : UInt8) => (b.toNat : Int)) = (List.range 1024).map fun j => if j < Sz36.wide s / 8 * Sz36.high s then (((rowOf s (j / (Sz36.wide s / 8)) / 2 ^ (Sz36.wide s - 8 * (j % (Sz36.wide s / 8)) - 8) % 2 ^ 8 : Nat)) : Int) else 0 := by
  unfold Sz36.shown
  rw [List.map_map]
  apply List.map_congr_left
  intro j hj
  show ((if j < Sz36.wide s / 8 * Sz36.high s then UInt8.ofNat ((List.range 8).foldl (fun v k => 2 * v + (s.lit (8 * (j % (Sz36.wide s / 8)) + k) (j / (Sz36.wide s / 8))).toNat) 0) else 0 : UInt8).toNat : Int) = _
  by_cases hc : j < Sz36.wide s / 8 * Sz36.high s
  · rw [if_pos hc, if_pos hc, fold_num (fun k => s.lit (8 * (j % (Sz36.wide s / 8)) + k) (j / (Sz36.wide s / 8)))]
    rw [byteZ (num_lt _ 8)]
    have hw : Sz36.wide s = 64 ∨ Sz36.wide s = 128 := by unfold Sz36.wide; cases s.large <;> simp
    have hp : 8 * (j % (Sz36.wide s / 8)) + 8 ≤ Sz36.wide s := by
      rcases hw with e | e <;> rw [e] <;> omega
    rw [num_part (fun x => s.lit x (j / (Sz36.wide s / 8))) hp]
    rfl
  · rw [if_neg hc, if_neg hc]
    rfl
end
end Sg
end
section
set_option Elab.async false
set_option linter.all false
set_option maxRecDepth 100000
set_option maxHeartbeats 2000000
namespace Sg
open Sz36 (St)
/-- n bytes put from I on -/
def putN (f : Nat → Nat) (s : St) (n : Nat) : St := (List.range n).foldl (fun k j => k.put (s.i + j) (f j)) s
theorem putN_succ (f : Nat → Nat) (s : St) (n : Nat) : putN f s (n + 1) = (putN f s n).put (s.i + n) (f n) := by
  unfold putN
  rw [List.range_succ, List.foldl_append]
  rfl
theorem putN_i (f : Nat → Nat) (s : St) : ∀ n, (putN f s n).i = s.i
  | 0 => rfl
  | n + 1 => by rw [putN_succ]; exact putN_i f s n
theorem putN_v (f : Nat → Nat) (s : St) : ∀ n, (putN f s n).v = s.v
  | 0 => rfl
  | n + 1 => by rw [putN_succ]; exact putN_v f s n
/-- n registers set -/
def setN (f : Nat → Nat) (s : St) (n : Nat) : St := (List.range n).foldl (fun k j => k.set j (f j)) s
theorem setN_succ (f : Nat → Nat) (s : St) (n : Nat) : setN f s (n + 1) = (setN f s n).set n (f n) := by
  unfold setN
  rw [List.range_succ, List.foldl_append]
  rfl
theorem setN_i (f : Nat → Nat) (s : St) : ∀ n, (setN f s n).i = s.i
  | 0 => rfl
  | n + 1 => by rw [setN_succ]; exact setN_i f s n
theorem setN_mem (f : Nat → Nat) (s : St) : ∀ n, (setN f s n).mem = s.mem
  | 0 => rfl
  | n + 1 => by rw [setN_succ]; exact setN_mem f s n
theorem setN_aside (f : Nat → Nat) (s : St) : ∀ n, (setN f s n).aside = s.aside
  | 0 => rfl
  | n + 1 => by rw [setN_succ]; exact setN_aside f s n
theorem reg_of_v {s t : St} (h : s.v = t.v) (k : Nat) : s.reg k = t.reg k := by unfold St.reg; rw [h]
theorem get_of_mem {s t : St} (h : s.mem = t.mem) (k : Nat) : s.get k = t.get k := by unfold St.get; rw [h]
/-- the first n registers kept aside -/
def asideN (s : St) (n : Nat) : St := { s with aside := (List.range 8).map fun j => if j < n then s.reg j else s.aside.getD j 0 }
theorem asideN_zero {s : St} (h : s.aside.length = 8) : asideN s 0 = s := by
  have e : ((List.range 8).map fun j => if j < 0 then s.reg j else s.aside.getD j 0) = s.aside := by
    apply List.ext_getElem?
    intro j
    rw [List.getElem?_map]
    by_cases hj : j < 8
    · rw [List.getElem?_range hj]
      simp only [Option.map_some, Nat.not_lt_zero, if_false]
      rw [List.getD_eq_getElem?_getD, List.getElem?_eq_getElem (by omega)]
      rfl
    · rw [List.getElem?_eq_none (by simp; omega), List.getElem?_eq_none (by omega)]
      rfl
  unfold asideN
  rw [e]
section
variable {m : MS} {s : St}
theorem R.asideStep {n : Nat} (h : R m (asideN s n)) (h0 : R m' s) (hn : n < 8) : R { m with aside := m.aside.set n ((s.reg n : Nat) : Int) } (asideN s (n + 1)) := by
  have hb := regB h0 n
  have e : (asideN s n).aside.set n (s.reg n) = (asideN s (n + 1)).aside := by
    apply List.ext_getElem?
    intro j
    show (((List.range 8).map fun j => if j < n then s.reg j else s.aside.getD j 0).set n (s.reg n))[j]? = ((List.range 8).map fun j => if j < n + 1 then s.reg j else s.aside.getD j 0)[j]?
    rw [List.getElem?_set, List.getElem?_map, List.getElem?_map]
    by_cases hj : j < 8
    · rw [List.getElem?_range hj]
      by_cases e : n = j
      · subst e
        simp [hn]
      · simp only [e, if_false, Option.map_some]
        by_cases h1 : j < n
        · rw [if_pos h1, if_pos (by omega)]
        · rw [if_neg h1, if_neg (by omega)]
    · rw [if_neg (by omega), List.getElem?_eq_none (by simp; omega)]
      rfl
  refine { h with aside := ?_, asideL := ?_, asideB := ?_ }
  · show m.aside.set n _ = _
    rw [h.aside, ints_set, e]
  · show ((List.range 8).map _).length = 8
    simp
  · rw [← e]
    exact mem_set_lt h.asideB hb
theorem asideD (h : R m s) (j : Nat) : s.aside.getD j 0 < 256 := by
  rw [List.getD_eq_getElem?_getD]
  cases e : s.aside[j]? with
  | none => decide
  | some x => exact h.asideB x (List.mem_of_getElem? e)
theorem R.asideAt (h : R m s) {k : Nat} (hk : k < 8) : m.aside[k]? = some ((s.aside.getD k 0 : Nat) : Int) := by
  rw [h.aside, ints_get, List.getD_eq_getElem?_getD]
  have : k < s.aside.length := by rw [h.asideL]; exact hk
  rw [List.getElem?_eq_getElem this]
  rfl
theorem R.putB (h : R m s) (a : Nat) {v : Nat} (hv : v < 256) : R { m with mem := m.mem.set (a % 4096) (v : Int) } (s.put a v) := by
  have q := h.put a v
  rw [Nat.mod_eq_of_lt hv] at q
  exact q
theorem R.memLen (h : R m s) : m.mem.length = 4096 := by rw [h.mem, tab_len]
theorem R.asideLen (h : R m s) : m.aside.length = 8 := by rw [h.aside, ints_len, h.asideL]
end
/-- FXNN -/
def actF (m : St) (x b : Nat) : Sz36.May :=
  let vx := m.reg x
  match b with
    | 0x07 => .ok (m.set x m.wait)
    | 0x0A => (match Sz36.pressed m with
      | some k => .ok (m.set x k)
      | none => .error 2)
    | 0x15 => .ok { m with wait := vx }
    | 0x18 => .ok { m with sound := vx }
    | 0x1E => .ok { m with i := (m.i + vx) % 65536 }
    | 0x29 => .ok { m with i := 5 * (vx % 16) }
    | 0x30 => .ok { m with i := 80 + 10 * (vx % 16) }
    | 0x33 => .ok (((m.put m.i (vx / 100)).put (m.i + 1) (vx / 10 % 10)).put (m.i + 2) (vx % 10))
    | 0x55 => .ok (Sz36.kept m x)
    | 0x65 => .ok (Sz36.taken m x)
    | 0x75 => if x < 8 then .ok { m with aside := (List.range 8).map fun j => if j ≤ x then m.reg j else m.aside.getD j 0 } else .error 1
    | 0x85 => if x < 8 then .ok ((List.range (x + 1)).foldl (fun k j => k.set j (m.aside.getD j 0)) m) else .error 1
    | _ => .error 1
theorem act_F {s : St} {w : Nat} (h : w / 4096 = 15) : Sz36.act s w = actF s (w / 256 % 16) (w % 256) := by
  unfold Sz36.act
  simp only [h]
  rfl
theorem actF_none {s : St} {x b : Nat} (h : b ≠ 7 ∧ b ≠ 10 ∧ b ≠ 21 ∧ b ≠ 24 ∧ b ≠ 30 ∧ b ≠ 41 ∧ b ≠ 48 ∧ b ≠ 51 ∧ b ≠ 85 ∧ b ≠ 101 ∧ b ≠ 117 ∧ b ≠ 133) : actF s x b = .error 1 := by
  unfold actF
  split <;> simp_all
theorem kept_eq (s : St) (x : Nat) : Sz36.kept s x = putN (fun j => s.reg j) s (x + 1) := rfl
theorem taken_eq (s : St) (x : Nat) : Sz36.taken s x = setN (fun j => s.get (s.i + j)) s (x + 1) := rfl
theorem asideN_eq (s : St) (x : Nat) : asideN s (x + 1) = { s with aside := (List.range 8).map fun j => if j ≤ x then s.reg j else s.aside.getD j 0 } := by
  unfold asideN
  simp only [Nat.lt_succ_iff]
end Sg
end
section
set_option Elab.async false
set_option linter.all false
set_option maxRecDepth 100000
set_option maxHeartbeats 2000000
namespace Sg
open Sz36 (St)
def fitN (b n room : Nat) : Nat := if room < n then b / 2 ^ (n - room) else b * 2 ^ (room - n)
theorem fit_eq {b n w x0 : Nat} (hx : x0 < w) : fitN b n (w - x0) = b * 2 ^ w / 2 ^ (x0 + n) := by
  have e : 2 ^ w = 2 ^ x0 * 2 ^ (w - x0) := by rw [← Nat.pow_add]; congr 1; omega
  rw [e, Nat.pow_add, Nat.mul_comm (2 ^ x0), ← Nat.mul_assoc, Nat.mul_comm (2 ^ x0) (2 ^ n), Nat.mul_div_mul_right _ _ (Nat.two_pow_pos x0)]
  unfold fitN
  generalize w - x0 = r
  split
  · have e2 : 2 ^ n = 2 ^ r * 2 ^ (n - r) := by rw [← Nat.pow_add]; congr 1; omega
    rw [e2, Nat.mul_comm b, Nat.mul_div_mul_left _ _ (Nat.two_pow_pos r)]
  · have e2 : 2 ^ r = 2 ^ (r - n) * 2 ^ n := by rw [← Nat.pow_add]; congr 1; omega
    rw [e2, ← Nat.mul_assoc, Nat.mul_div_cancel _ (Nat.two_pow_pos n)]
section
variable (s : St) (x0 y0 : Nat) (big : Bool)
theorem laidRow_same {i y : Nat} (h : y ≠ y0 + i) : laidRow s x0 y0 (i + 1) big y = laidRow s x0 y0 i big y := by
  unfold laidRow
  by_cases e : y0 ≤ y ∧ y < y0 + i
  · rw [if_pos e, if_pos ⟨e.1, by omega⟩]
  · rw [if_neg e, if_neg (by omega)]
theorem laidRow_new (i : Nat) : laidRow s x0 y0 (i + 1) big (y0 + i) = shapeRow s big i * 2 ^ Sz36.wide s / 2 ^ (x0 + if big = true then 16 else 8) := by
  unfold laidRow
  rw [if_pos ⟨by omega, by omega⟩, show y0 + i - y0 = i by omega]
theorem laidRow_old (i : Nat) : laidRow s x0 y0 i big (y0 + i) = 0 := by
  unfold laidRow
  rw [if_neg (by omega)]
theorem laidRow_zero (y : Nat) : laidRow s x0 y0 0 big y = 0 := by
  unfold laidRow
  rw [if_neg (by omega)]
theorem hits_zero : hits s x0 y0 0 big = false := by
  unfold hits
  rw [List.any_eq_false]
  intro y _
  rw [laidRow_zero]
  simp
theorem hits_out {i : Nat} (h : ¬ y0 + i < Sz36.high s) : hits s x0 y0 (i + 1) big = hits s x0 y0 i big := by
  rw [Bool.eq_iff_iff]
  unfold hits
  rw [List.any_eq_true, List.any_eq_true]
  constructor
  · rintro ⟨y, hy, q⟩
    have hy2 := List.mem_range.mp hy
    rw [laidRow_same s x0 y0 big (by omega)] at q
    exact ⟨y, hy, q⟩
  · rintro ⟨y, hy, q⟩
    have hy2 := List.mem_range.mp hy
    rw [← laidRow_same s x0 y0 big (i := i) (by omega)] at q
    exact ⟨y, hy, q⟩
theorem hits_in {i : Nat} (h : y0 + i < Sz36.high s) : hits s x0 y0 (i + 1) big = (hits s x0 y0 i big || (rowOf s (y0 + i) &&& (shapeRow s big i * 2 ^ Sz36.wide s / 2 ^ (x0 + if big = true then 16 else 8)) != 0)) := by
  rw [Bool.eq_iff_iff, Bool.or_eq_true]
  unfold hits
  rw [List.any_eq_true, List.any_eq_true]
  constructor
  · rintro ⟨y, hy, q⟩
    by_cases e : y = y0 + i
    · subst e
      rw [laidRow_new, Nat.and_comm] at q
      exact .inr q
    · rw [laidRow_same s x0 y0 big e] at q
      exact .inl ⟨y, hy, q⟩
  · rintro (⟨y, hy, q⟩ | q)
    · by_cases e : y = y0 + i
      · subst e
        rw [laidRow_old] at q
        simp at q
      · rw [← laidRow_same s x0 y0 big e] at q
        exact ⟨y, hy, q⟩
    · refine ⟨y0 + i, List.mem_range.mpr h, ?_⟩
      rw [laidRow_new, Nat.and_comm]
      exact q
/-- the rows behind the first i rows of the shape -/
def laidT (i : Nat) : List Int := tab (Sz36.high s) fun j => rowOf s j ^^^ laidRow s x0 y0 i big j
theorem laidT_zero : laidT s x0 y0 big 0 = tab (Sz36.high s) (rowOf s) := by
  unfold laidT
  apply tab_ext
  intro j _
  rw [laidRow_zero, Nat.xor_zero]
theorem laidT_out {i : Nat} (h : ¬ y0 + i < Sz36.high s) : laidT s x0 y0 big (i + 1) = laidT s x0 y0 big i := by
  unfold laidT
  apply tab_ext
  intro j hj
  rw [laidRow_same s x0 y0 big (by omega)]
theorem laidT_get {i : Nat} (h : y0 + i < Sz36.high s) : (laidT s x0 y0 big i)[y0 + i]? = some ((rowOf s (y0 + i) : Nat) : Int) := by
  unfold laidT
  rw [tab_get _ h, laidRow_old, Nat.xor_zero]
theorem laidT_in {i : Nat} (h : y0 + i < Sz36.high s) : (laidT s x0 y0 big i).set (y0 + i) ((rowOf s (y0 + i) ^^^ (shapeRow s big i * 2 ^ Sz36.wide s / 2 ^ (x0 + if big = true then 16 else 8)) : Nat) : Int) = laidT s x0 y0 big (i + 1) := by
  unfold laidT
  rw [tab_set _ _ h]
  apply tab_ext
  intro j _
  by_cases e : j = y0 + i
  · rw [if_pos e]
    subst e
    rw [laidRow_new]
  · rw [if_neg e, laidRow_same s x0 y0 big e]
theorem laidT_len (i : Nat) : (laidT s x0 y0 big i).length = Sz36.high s := tab_len _ _
end
theorem or_ne_zero (a b : Nat) : (a ||| b != 0) = ((a != 0) || (b != 0)) := by
  rw [Bool.eq_iff_iff, Bool.or_eq_true, bne_iff_ne, bne_iff_ne, bne_iff_ne]
  constructor
  · intro h
    by_cases ha : a = 0
    · right
      intro hb
      exact h (by rw [ha, hb]; rfl)
    · exact .inl ha
  · intro h q
    have := Nat.or_eq_zero_iff.mp q
    rcases h with h | h
    · exact h this.1
    · exact h this.2
end Sg
end
section
set_option Elab.async false
set_option linter.all false
set_option maxRecDepth 100000
set_option maxHeartbeats 2000000
namespace Sg
open Sz36 (St)
def flatN (f : Nat → Nat → Int) (per i : Nat) : List Int := ((List.range i).map fun y => (List.range per).map (f y)).flatten
theorem flatN_succ (f : Nat → Nat → Int) (per i : Nat) : flatN f per (i + 1) = flatN f per i ++ (List.range per).map (f i) := by
  unfold flatN
  rw [List.range_succ, List.map_append, List.flatten_append]
  simp
theorem flatN_len (f : Nat → Nat → Int) (per : Nat) : ∀ i, (flatN f per i).length = per * i
  | 0 => rfl
  | i + 1 => by
    rw [flatN_succ, List.length_append, flatN_len f per i, List.length_map, List.length_range, Nat.mul_succ]
theorem flatN_get (f : Nat → Nat → Int) {per : Nat} (hp : 0 < per) : ∀ i k, (flatN f per i)[k]? = if k < per * i then some (f (k / per) (k % per)) else none
  | 0, k => by simp [flatN]
  | i + 1, k => by
    rw [flatN_succ]
    by_cases h : k < per * i
    · rw [List.getElem?_append_left (by rw [flatN_len]; exact h), flatN_get f hp i k, if_pos h, if_pos (by rw [Nat.mul_succ]; omega)]
    · obtain ⟨r, rfl⟩ : ∃ r, k = per * i + r := ⟨k - per * i, by omega⟩
      rw [List.getElem?_append_right (by rw [flatN_len]; omega), flatN_len, Nat.add_sub_cancel_left, List.getElem?_map]
      by_cases hr : r < per
      · rw [List.getElem?_range hr, if_pos (by rw [Nat.mul_succ]; omega), Nat.mul_add_div hp, Nat.div_eq_of_lt hr, Nat.add_zero, Nat.mul_add_mod, Nat.mod_eq_of_lt hr]
        rfl
      · rw [List.getElem?_eq_none (by simp; omega), if_neg (by rw [Nat.mul_succ]; omega)]
        rfl
/-- the bytes of the first i rows -/
def toldN (st : St) (i : Nat) : List Int := flatN (fun y j => ((rowOf st y / 2 ^ (Sz36.wide st - 8 - 8 * j) % 256 : Nat) : Int)) (Sz36.wide st / 8) i
theorem shown_told {m : MS} {s : St} (h : R m s) : (Sz36.shown s).map (fun (b : UInt8) => (b.toNat : Int)) = toldN s (Sz36.high s) ++ List.replicate (1024 - Sz36.wide s / 8 * Sz36.high s) 0 := by
  have hw : (Sz36.wide s = 64 ∧ Sz36.high s = 32) ∨ (Sz36.wide s = 128 ∧ Sz36.high s = 64) := by unfold Sz36.wide Sz36.high; cases s.large <;> simp
  have hp : 0 < Sz36.wide s / 8 := by rcases hw with e | e <;> rw [e.1] <;> decide
  have hle : Sz36.wide s / 8 * Sz36.high s ≤ 1024 := by rcases hw with e | e <;> rw [e.1, e.2] <;> decide
  rw [shown_eq h]
  apply List.ext_getElem?
  intro k
  rw [List.getElem?_map]
  by_cases hk : k < Sz36.wide s / 8 * Sz36.high s
  · rw [List.getElem?_append_left (by rw [toldN, flatN_len]; exact hk), toldN, flatN_get _ hp, if_pos hk, List.getElem?_range (by omega)]
    simp only [Option.map_some]
    rw [if_pos hk]
    have e : Sz36.wide s - 8 * (k % (Sz36.wide s / 8)) - 8 = Sz36.wide s - 8 - 8 * (k % (Sz36.wide s / 8)) := by omega
    rw [e]
  · rw [List.getElem?_append_right (by rw [toldN, flatN_len]; omega), toldN, flatN_len, List.getElem?_replicate]
    by_cases hk2 : k < 1024
    · rw [List.getElem?_range hk2, if_pos (by omega)]
      simp only [Option.map_some]
      rw [if_neg hk]
    · rw [List.getElem?_eq_none (by simp; omega), if_neg (by omega)]
      rfl
end Sg
end
section
set_option Elab.async false
set_option linter.all false
set_option maxRecDepth 100000
set_option maxHeartbeats 2000000
namespace Sg
open PySem PySem.Spec PyProof.Rows L2
/-! ### enumerate over a tuple -/
section
variable {prog : Program} {w : World} {A : Around} {E : Value → Shared → Prop} {s : Shared} {j t : Addr} {i : Nat}
theorem nt_item {its : Array Value} {x : Value} {Q : Value → Shared → Prop} (hj : s.heap.IsTupleIter j t i) (ht : s.heap.IsTuple t its) (hx : its[i]? = some x)
    (k : ∀ h', h'.IsTupleIter j t (i + 1) → Heap.SameBut j s.heap h' → Q x { s with heap := h' }) : wpAny (model prog w) A (Builtin.SmallTypes.nextOf (.ref j)) Q E s := by
  obtain ⟨oj, e1, e2, e3⟩ := id hj
  obtain ⟨ot, f1, _, nt, f3⟩ := ht
  unfold Builtin.SmallTypes.nextOf
  refine wpAny_bind (wpAny_callSpecial?_slot (name := Str.ofString "__next__") hj.typeIs F.slot_tuple_iterator_next (wpAny_call_entry F.slot_tuple_iterator_next hj.typeIs F.entry_tuple_iterator_next ?_ (F.args_tuple_iterator_next_1 _)))
  change wpAny _ _ (field (.ref j) 0 >>= _) _ _ s
  refine wpAny_bind (wpAny_field e1 e3 (x := .ref t) rfl ?_)
  change wpAny _ _ (if (Value.ref t == Value.none) = true then _ else _) _ _ s
  rw [if_neg (show ¬ (Value.ref t == Value.none) = true by exact Bool.false_ne_true)]
  change wpAny _ _ (field (.ref j) 1 >>= _) _ _ s
  refine wpAny_bind (wpAny_field e1 e3 (x := .int i 0) rfl ?_)
  change wpAny _ _ (seqItems? (.ref t) >>= _) _ _ s
  refine wpAny_bind (wpAny_seqItems f1 f3 ?_)
  simp only [Int.toNat_natCast, hx]
  refine wpAny_bind (wpAny_setField e1 e3 (by simp) (wpAny_pure ⟨x, rfl, wpAny_pure (k _ ⟨_, Heap.get?_update_self _ e1 (Obj.isFreed_of_fields (Obj.data_mapFields e3 _)), (Obj.cls_mapFields ..).trans e2, ?_⟩ (Heap.SameBut.update ..))⟩))
  rw [Obj.data_mapFields e3]
  simp [rawInt]
theorem nt_end {its : Array Value} {Q : Value → Shared → Prop} (hh : A.handled = none) (hj : s.heap.IsTupleIter j t i) (ht : s.heap.IsTuple t its) (hx : its[i]? = none)
    (k : ∀ h' e, Heap.ExtBut j s.heap h' → (∃ o, h'.get? e = some o ∧ o.cls = .type "StopIteration") → E (.ref e) { s with heap := h' }) : wpAny (model prog w) A (Builtin.SmallTypes.nextOf (.ref j)) Q E s := by
  obtain ⟨oj, e1, e2, e3⟩ := id hj
  obtain ⟨ot, f1, _, nt, f3⟩ := ht
  unfold Builtin.SmallTypes.nextOf
  refine wpAny_bind (wpAny_callSpecial?_slot (name := Str.ofString "__next__") hj.typeIs F.slot_tuple_iterator_next (wpAny_call_entry F.slot_tuple_iterator_next hj.typeIs F.entry_tuple_iterator_next ?_ (F.args_tuple_iterator_next_1 _)))
  change wpAny _ _ (field (.ref j) 0 >>= _) _ _ s
  refine wpAny_bind (wpAny_field e1 e3 (x := .ref t) rfl ?_)
  change wpAny _ _ (if (Value.ref t == Value.none) = true then _ else _) _ _ s
  rw [if_neg (show ¬ (Value.ref t == Value.none) = true by exact Bool.false_ne_true)]
  change wpAny _ _ (field (.ref j) 1 >>= _) _ _ s
  refine wpAny_bind (wpAny_field e1 e3 (x := .int i 0) rfl ?_)
  change wpAny _ _ (seqItems? (.ref t) >>= _) _ _ s
  refine wpAny_bind (wpAny_seqItems f1 f3 ?_)
  simp only [Int.toNat_natCast, hx]
  refine wpAny_bind (wpAny_rule (wpAny_bind (wpAny_setField e1 e3 (by simp) ?_)))
  change wpAny _ _ (newExc (.type "StopIteration") [] >>= _) _ _ _
  refine wpAny_bind ?_
  simp only [newExc, newTuple]
  refine wpAny_bind (wpAny_newObj_type (wpAny_bind (m := firstArgMember _ _) (wpAny_of_eq (a := Value.none) (by first | rfl | (simp only [firstArgMember]; rfl)) (wpAny_newObj_type ?_ (by size_fits)))) (by size_fits))
  simp only [raiseNew]
  refine wpAny_bind (wpAny_handled ?_)
  first | rw [show A.in1.handled = none from hh] | rw [hh]
  exact wpAny_bind (wpAny_pure (wpAny_throw (k _ _ (((Heap.SameBut.update ..).extBut.push _).push _) ⟨_, Heap.get?_push_size _ rfl, rfl⟩)))
theorem draws_tup (hh : A.handled = none) (hne : t ≠ j) (its : Array Value) : Draws prog w A j [j, t] its.size (fun i v => its[i]? = some v) (fun i h => h.IsTupleIter j t i ∧ h.IsTuple t its) where
  live := fun _ _ st => let ⟨o, ho, _⟩ := st.1; ⟨o, ho⟩
  frame := fun _ _ _ st hk => ⟨let ⟨o, e, r⟩ := st.1; ⟨o, hk j (by simp) o e, r⟩, let ⟨o, e, r⟩ := st.2; ⟨o, hk t (by simp) o e, r⟩⟩
  item := fun i s Q E hi st hQ => nt_item st.1 st.2 (x := its[i]) (by simp [hi]) fun h' a b => hQ _ h' s.toks (by simp [hi]) ⟨a, st.2.extBut b.extBut hne⟩ b
  done := fun s Q E st hE => nt_end hh st.1 st.2 (by simp) hE
end
theorem meets_enT (l : Addr) (its : Array Value) (n : Nat) (dct : Option Addr) (sl : Array (Option Value)) :
    Meets (Builtin.«enumerate.__new__» ⟨[.type "enumerate", .ref l], []⟩) (fun _ R s => s.heap.get? l = some { cls := .type "tuple", dict := dct, data := .seq its n, slots := sl } ∧
      R (.ok (.ret (.ref (s.heap.push { cls := .type "tuple_iterator", data := .fields #[.ref l, .int 0 0] }).objs.size)))
        { s with heap := (s.heap.push { cls := .type "tuple_iterator", data := .fields #[.ref l, .int 0 0] }).push { cls := .type "enumerate", data := .fields #[.none, .bool false, .ref s.heap.objs.size, rawInt 0, .none, .none] } }) :=
  .of_wp fun prog w A R s h => by
    obtain ⟨hp, g, d, tk, os⟩ := s
    obtain ⟨hl, h⟩ := h
    have hsub := sub_enumerate
    have hT : Heap.IsTuple (Shared.heap ⟨hp, g, d, tk, os⟩) l its := ⟨_, hl, rfl, n, rfl⟩
    wp_walk using AutoSeq1.wpAny_loadPart' hl
    refine wpAny_stack_any fun st => wpAny_pure ?_
    split
    · rename_i c _ _ _ _ _
      cases (c == Value.type "enumerate")
      all_goals (wp_walk using AutoSeq1.wpAny_loadPart' hl, wpAny_pyIter_tuple hT; exact ⟨_, rfl, h⟩)
    · wp_walk using AutoSeq1.wpAny_loadPart' hl, wpAny_pyIter_tuple hT
      exact ⟨_, rfl, h⟩
section
variable {prog : Program} {w : World} {A : Around} {E : Value → Shared → Prop} {s : Shared}
theorem call_enT {l : Addr} {its : Array Value} {Q : Value → Shared → Prop} (hL : s.heap.IsTuple l its)
    (h : ∀ h', IsEnum h' (s.heap.objs.size + 1) s.heap.objs.size 0 .none → h'.IsTupleIter s.heap.objs.size l 0 → (∀ b o, s.heap.get? b = some o → h'.get? b = some o) → Q (.ref (s.heap.objs.size + 1)) { s with heap := h' }) :
    wpAny (model prog w) A (call (.type "enumerate") [.ref l]) Q E s := by
  obtain ⟨⟨c, dct, dt, sl⟩, hl, hc, n, hd⟩ := hL
  obtain rfl : c = .type "tuple" := hc
  obtain rfl : dt = .seq its n := hd
  refine callType_new F.called_enumerate (by decide) (F.typeCall_enumerate_1 _) (F.newCall_enumerate_1 _) (fun obj => F.args_object_init_2 obj _) F.entry_enumerate_new (meets_enT l its n dct sl) ⟨hl, ?_⟩
  have hz : (s.heap.push { cls := .type "tuple_iterator", data := .fields #[.ref l, .int 0 0] }).objs.size = s.heap.objs.size + 1 := Heap.size_push ..
  show _ ∧ _
  have he := Heap.get?_push_size (s.heap.push { cls := .type "tuple_iterator", data := .fields #[.ref l, .int 0 0] }) (o := { cls := .type "enumerate", data := .fields #[.none, .bool false, .ref s.heap.objs.size, rawInt 0, .none, .none] }) rfl
  rw [hz] at he ⊢
  exact ⟨⟨_, he, rfl⟩, h _ he ⟨_, Heap.get?_push_of_some _ (Heap.get?_push_size _ rfl), rfl, rfl⟩ fun b o x => Heap.get?_push_of_some _ (Heap.get?_push_of_some _ x)⟩
end
def IteT (K : PySem.W.Frag) (a : Addr) : It :=
  ⟨fun i H => ∃ (xs : List V) (x : V), SqT K H a xs ∧ xs[i]? = some x, fun i H v H' => ∃ T x, v = .ref T ∧ H T = none ∧ H' = upd H T (.tup [.int (i : Nat), x]) ∧ ∀ xs, SqT K H a xs → xs[i]? = some x, fun i H => ∃ xs : List V, SqT K H a xs ∧ xs.length ≤ i⟩
theorem draws_end {prog : Program} {w : World} {A : Around} {j t : Addr} {n : Nat} {its : Array Value} (hh : A.handled = none) (hx : its[n]? = none) : Draws prog w A j [j, t] n (fun _ _ => True) (fun i h => i = n ∧ h.IsTupleIter j t n ∧ h.IsTuple t its) where
  live := fun _ _ st => let ⟨o, ho, _⟩ := st.2.1; ⟨o, ho⟩
  frame := fun _ _ _ st hk => ⟨st.1, let ⟨o, e, r⟩ := st.2.1; ⟨o, hk j (by simp) o e, r⟩, let ⟨o, e, r⟩ := st.2.2; ⟨o, hk t (by simp) o e, r⟩⟩
  item := fun i s Q E hi st hQ => absurd st.1 (Nat.ne_of_lt hi)
  done := fun s Q E st hE => nt_end hh st.2.1 st.2.2 hx hE
theorem turn_enT {P : Program} {w : World} {K : PySem.W.Frag} {elts : List Expr} {kk : Nat} {tpos : Pos} (a e it : Addr) :
    Turn P w K (.Tuple elts kk tpos) (IteT K a) [e, it] e (fun i h => (∃ old, IsEnum h e it ((i : Nat) : Int) old) ∧ h.IsTupleIter it a i ∧ e ≠ it) where
  mem := by simp
  obj := fun i h st b hb => by
    obtain ⟨⟨old, he⟩, ⟨o, ho, hc, hd⟩, _⟩ := st
    have e' : b = e ∨ b = it := by simpa using hb
    rcases e' with z | z
    · rw [z]; exact ⟨_, he, fun v q => nomatch q⟩
    · rw [z]; exact ⟨o, ho, fun v q => by rw [hd] at q; cases q⟩
  keep := fun i h h' st k => let ⟨⟨old, he⟩, ⟨o, ho, r⟩, hne⟩ := st; ⟨⟨old, k e (by simp) _ he⟩, ⟨o, k it (by simp) o ho, r⟩, hne⟩
  item := by
    intro X hP hw hK hc i pins s σ H E I hf st hg
    subst hP hw hK
    obtain ⟨⟨old, he⟩, hit, hne⟩ := st
    obtain ⟨xs, x, hq, hx⟩ := hg
    obtain ⟨its, rv, p, hz⟩ := I.tuple hq
    obtain ⟨u, hu, ru⟩ := rv.get hx
    have hel : e < s.heap.objs.size := Heap.lt_size he
    have hil : it < s.heap.objs.size := by obtain ⟨_, q, _⟩ := hit; exact Heap.lt_size q
    have pt : s.heap.IsTuple a its.toArray := p
    have hea : e ≠ a := fun z => by
      obtain ⟨o, q1, q2, _⟩ := pt
      rw [← z, he] at q1
      cases q1
      exact absurd (Value.type.inj q2) (by decide)
    have hai : a ≠ it := fun z => by
      obtain ⟨o, q1, q2, _⟩ := pt
      obtain ⟨o', q3, q4, _⟩ := id hit
      rw [z, q3] at q1
      cases q1
      rw [q4] at q2
      exact absurd (Value.type.inj q2) (by decide)
    have hlt : i < its.toArray.size := by
      have := (List.getElem?_eq_some_iff.mp hu).1
      simpa using this
    refine wpAny_pyNext_enum_itemD (draws_tup (A := X.A.in1) (show X.A.in1.handled = none from I.ok.hd hc) hai its.toArray) he ⟨hit, pt⟩ hlt hne (by simp [hne, hea]) fun x' h' tk hx' ho st' hT hsz hk => ?_
    have ex : x' = u := by
      have hx2 : its.toArray[i]? = some x' := hx'
      have hu2 : its.toArray[i]? = some u := by simpa using hu
      rw [hu2] at hx2
      exact (Option.some.inj hx2).symm
    subst ex
    refine ⟨_, rfl, wpAny_letOwnedTupleGo_enum (s := { s with heap := h', toks := tk + 1 }) ho fun h'' he' sb => ?_⟩
    have hT2 : h''.get? s.heap.objs.size = some { cls := .type "tuple", data := .seq #[.int i tk, x'] } := (sb.2 _ (Nat.ne_of_gt hel)).trans hT
    have new : ObjOk X.prog X.w (upd H s.heap.objs.size (.tup [.int (i : Nat), x])) h'' s.heap.objs.size (.tup [.int (i : Nat), x]) :=
      ⟨by show 2 ≤ sizeLine; decide, [.int i tk, x'], .cons ⟨_, rfl⟩ (.cons ru .nil), ⟨_, hT2, rfl, _, rfl⟩⟩
    have I1 : Inv X pins σ (upd H s.heap.objs.size (.tup [.int (i : Nat), x])) { s with heap := h'', toks := tk + 1 } :=
      I.turnedNew (ch := [e, it]) (fun b ob hb q => (sb.2 b (fun z => hb (by simp [z]))).trans (hk b ob (fun z => hb (by simp [z])) (fun z => hb (by simp [z])) q)) hf (Nat.le_refl _) new
    have hst2 : h''.IsTupleIter it a (i + 1) := let ⟨o, e1, r⟩ := st'.1; ⟨o, (sb.2 it (Ne.symm hne)).trans e1, r⟩
    refine ⟨.ref s.heap.objs.size, _, I1, rfl, ⟨_, x, rfl, I.hok.fresh (Nat.le_refl _), rfl, fun ys hy => by rw [I.tuple_inj hy hq]; exact hx⟩, ⟨⟨x', ?_⟩, hst2, hne⟩, fun b hb => ?_⟩
    · have e1 : ((i + 1 : Nat) : Int) = (i : Int) + 1 := by omega
      rw [e1]; exact he'
    · have hb' : b < s.heap.objs.size := by
        have e' : b = e ∨ b = it := by simpa using hb
        rcases e' with z | z <;> rw [z] <;> assumption
      rw [upd_ne (Nat.ne_of_lt hb')]
      exact (hf b hb).1
  done := by
    intro X hP hw hK hc i pins s σ H E I hf st hg
    subst hP hw hK
    obtain ⟨⟨old, he⟩, hit, hne⟩ := st
    obtain ⟨xs, hq, hx⟩ := hg
    obtain ⟨its, rv, p, hz⟩ := I.tuple hq
    obtain ⟨f0, f1, f2, f3, f4, f5⟩ := hf it (by simp)
    have hl := rv.length
    refine wpAny_pyNext_enum_endD (n := i) (draws_end (A := X.A.in1) (its := its.toArray) (show X.A.in1.handled = none from I.ok.hd hc) (by simp; omega)) he ⟨rfl, hit, p⟩ fun h' eb => ⟨rfl, I.turned (t' := s.toks) (fun b o hb q => eb b o hb q) f0 f1 f3 f4 f5⟩
  self := fun A i s Q E st h => let ⟨⟨_, he⟩, _⟩ := st; wpAny_pyIter_enum he h
def iEnumT (K : PySem.W.Frag) (ta : TA) : TI := fun σ H R => ta σ H fun vs H1 => ∃ a xs, vs = [.ref a] ∧ SqT K H1 a xs ∧ R (IteT K a) H1
theorem pi_enumT {X : Cx} {e : Expr} {ta : TA} {p pos tpos : Pos} {elts : List Expr} {kk : Nat} (hg : Gl X "enumerate") (hm : X.mg "enumerate" = none) (ha : PA X [e] ta) (hs : starEach [e] X.env = [(false, eval e X.env)] := by rfl) :
    PI X (.Tuple elts kk tpos) (.Call (.Name "enumerate" p) [e] [] pos) (iEnumT X.K ta) := by
  intro pins s σ H R I h
  refine Call_ (ld_blt I hg hm boot_enumerate (PyProof.Rows.callWith_type1 (thn (ha pos pins s σ H _ I h) fun us s1 ⟨vs, H1, I1, r1, q1⟩ => ?_) hs rfl))
  obtain ⟨a, xs, ex, hq, q⟩ := q1
  subst ex
  cases r1 with
  | cons r rr =>
    cases rr
    cases r
    obtain ⟨its, rv, p', hz⟩ := I1.tuple hq
    refine call_enT p' fun h' he hit hk => wpAny_pyIter_enum he ?_
    have I2 : Inv X pins σ H1 { s1 with heap := h' } := I1.kept (t' := s1.toks) hk
    refine ⟨s1.heap.objs.size + 1, [s1.heap.objs.size + 1, s1.heap.objs.size], _, _, H1, rfl, I2, turn_enT a (s1.heap.objs.size + 1) s1.heap.objs.size, ⟨⟨.none, he⟩, hit, Nat.succ_ne_self _⟩, fun b hb => ?_, q⟩
    have e' : b = s1.heap.objs.size + 1 ∨ b = s1.heap.objs.size := by simpa using hb
    have hle : s1.heap.objs.size ≤ b := by rcases e' with z | z <;> rw [z] <;> omega
    exact I1.fpOk hle (I1.hok.fresh hle)
theorem for_enumT {K : PySem.W.Frag} {a : Addr} {xs : List V} {g : TG} {tb : TS} {D : Ends} {σ : L2.St} {H : Hp} (Pv : Nat → L2.St → Hp → Prop) (h0 : Pv 0 σ H) (hl : ∀ i σ H, i ≤ xs.length → Pv i σ H → SqT K H a xs)
    (hs : ∀ i x σ H T, xs[i]? = some x → Pv i σ H → H T = none → g (.ref T) σ (upd H T (.tup [.int (i : Nat), x])) fun σ2 H2 => tb { D with nx := Pv (i + 1), ct := Pv (i + 1), bk := D.nx } σ2 H2) (hd : ∀ σ H, Pv xs.length σ H → D.nx σ H) :
    ∃ W : Nat → Nat → L2.St → Hp → Prop, (∃ m, W 0 m σ H) ∧ ∀ i m σ H, W i m σ H →
      ((IteT K a).stop i H ∧ D.nx σ H) ∨ ((IteT K a).go i H ∧ ∃ N : L2.St → Hp → Prop, (∀ σ' H', N σ' H' → ∃ m', m' < m ∧ W (i + 1) m' σ' H') ∧ ∀ x H', (IteT K a).yld i H x H' → g x σ H' fun σ2 H2 => tb { D with nx := N, ct := N, bk := D.nx } σ2 H2) := by
  refine ⟨fun i m σ H => m = xs.length - i ∧ i ≤ xs.length ∧ Pv i σ H, ⟨xs.length, by simp, Nat.zero_le _, h0⟩, ?_⟩
  rintro i m σ H ⟨rfl, hi, p⟩
  have q := hl i σ H hi p
  by_cases hlt : i < xs.length
  · refine .inr ⟨⟨xs, xs[i], q, by simp [hlt]⟩, Pv (i + 1), fun σ' H' p' => ⟨xs.length - (i + 1), by omega, rfl, hlt, p'⟩, fun x H' y => ?_⟩
    obtain ⟨T, z, e1, e2, e3, y⟩ := y
    subst e1
    subst e3
    exact hs i z σ H T (y xs q) p e2
  · have e : i = xs.length := by omega
    subst e
    exact .inl ⟨⟨xs, q, Nat.le_refl _⟩, hd σ H p⟩
end Sg
end
section
set_option Elab.async false
set_option linter.all false
set_option maxRecDepth 100000
set_option maxHeartbeats 2000000
namespace Sg
open PySem PySem.Spec PyProof.Rows L2
open PySem.W (Codec)
/-- a name of the top that holds an int -/
def GInt (mg : Str → Option Value) (x : Str) (v : Int) : Prop := ∃ t, mg x = some (.int v t)
/-- a tuple of the top -/
def TupK (K : PySem.W.Frag) (a : Addr) (xs : List V) : Prop := ∃ (o : Obj) (its : Array Value) (n : Nat), K.lookup a = some o ∧ o.cls = .type "tuple" ∧ o.data = .seq its n ∧ its.size ≤ sizeLine ∧ Vals xs its.toList
theorem TupK.sq {K : PySem.W.Frag} {a : Addr} {xs : List V} (h : TupK K a xs) (H : Hp) : SqT K H a xs := .inr h
section
variable {X : Cx}
theorem pe_gint {x : Str} {v : Int} {pos : Pos} (hg : Gl X x) (h : GInt X.mg x v) (hd : (x == ("__debug__" : Str)) = false := by decide) : PE X (.Name x pos) (tC (.int v)) := by
  obtain ⟨t, e⟩ := h
  exact pe_glob hg e ⟨t, rfl⟩ hd
theorem pe_gref {x : Str} {a : Addr} {pos : Pos} (hg : Gl X x) (h : X.mg x = some (.ref a)) (hd : (x == ("__debug__" : Str)) = false := by decide) : PE X (.Name x pos) (tC (.ref a)) :=
  pe_glob hg h rfl hd
end
/-! ### a dict of the top: numbers to defs -/
def absE (e : DictEntry) : Option (Int × Addr) := match e.key, e.val with
  | .int i _, .ref a => if e.hash = hashInt i then some (i, a) else none
  | _, _ => none
theorem absE_some {e : DictEntry} {i : Int} {a : Addr} (h : absE e = some (i, a)) : (∃ t, e.key = .int i t) ∧ e.val = .ref a ∧ e.hash = hashInt i := by
  unfold absE at h
  split at h
  · rename_i j t b hk hv
    split at h
    · rename_i hh
      obtain ⟨rfl, rfl⟩ := Prod.mk.inj (Option.some.inj h)
      exact ⟨⟨t, hk⟩, hv, hh⟩
    · cases h
  · cases h
def DicK (K : PySem.W.Frag) (a : Addr) (kvs : List (Int × Addr)) : Prop :=
  ∃ (es : Array DictEntry) (n : Nat), K.lookup a = some ⟨.type "dict", none, .dict es n, #[]⟩ ∧ (a == sysModules) = false ∧ es.toList.map absE = kvs.map some ∧ (kvs.map (·.1)).Nodup
def fnd (kvs : List (Int × Addr)) (i : Int) : Option Addr := (kvs.find? fun kv => kv.1 = i).map (·.2)
def asVals (kvs : List (Int × Addr)) : List (Int × Value) := kvs.map fun kv => (kv.1, Value.ref kv.2)
theorem asVals_at : ∀ (kvs : List (Int × Addr)) (i : Int), valueAt (asVals kvs) i = (fnd kvs i).map Value.ref
  | [], i => rfl
  | kv :: r, i => by
    have ih := asVals_at r i
    unfold valueAt asVals fnd at ih ⊢
    rw [List.map_cons, List.find?_cons, List.find?_cons]
    by_cases e : kv.1 = i
    · simp [e]
    · simp only [e, decide_false]
      exact ih
theorem absE_pairs {P : Program} {w : World} : ∀ {l : List DictEntry} {kvs : List (Int × Addr)}, l.map absE = kvs.map some → Pairs (intKind P w) l (asVals kvs) ∧ ∀ e ∈ l, ∃ k, (intKind P w).is k e.key = true ∧ e.hash = (intKind P w).hash k
  | [], [], _ => ⟨.nil, fun _ h => nomatch h⟩
  | [], _ :: _, h => by simp at h
  | _ :: _, [], h => by simp at h
  | e :: l, kv :: kvs, h => by
    simp only [List.map_cons, List.cons.injEq] at h
    obtain ⟨⟨t, h1⟩, h2, h3⟩ := absE_some (e := e) (i := kv.1) (a := kv.2) h.1
    obtain ⟨p, q⟩ := absE_pairs (P := P) (w := w) h.2
    have his : (intKind P w).is kv.1 e.key = true := by rw [h1]; simp [intKind, Value.isInt]
    refine ⟨.cons his h2 p, fun z hz => ?_⟩
    rcases List.mem_cons.mp hz with rfl | hz
    · exact ⟨kv.1, his, h3⟩
    · exact q z hz
theorem DicK.dictOf {K : PySem.W.Frag} {a : Addr} {kvs : List (Int × Addr)} {hp : Heap} {P : Program} {w : World} (h : DicK K a kvs) (hk : K.In hp) : hp.DictOf (intKind P w) a (asVals kvs) := by
  obtain ⟨es, n, lk, _, hm, nd⟩ := h
  obtain ⟨p, q⟩ := absE_pairs (P := P) (w := w) hm
  refine ⟨_, es, n, hk a _ lk, ⟨rfl, rfl, rfl⟩, rfl, fun e he => q e (by simpa using he), p, ?_⟩
  have e : (asVals kvs).map (·.1) = kvs.map (·.1) := by simp [asVals]
  rw [e]
  exact nd
section
variable {X : Cx}
theorem op_notInK : OpR X (compareOp .NotIn) (fun x y H Q => ∃ i a kvs, x = .int i ∧ y = .ref a ∧ DicK X.K a kvs ∧ Q (.bl (!(fnd kvs i).isSome)) H) := by
  intro pins s σ H x y v u Q I rx ry h
  obtain ⟨i, a, kvs, rfl, rfl, hD, q⟩ := h
  obtain ⟨t, rfl⟩ := rx
  cases ry
  have dd : s.heap.DictOf (intKind X.prog X.w) a (asVals kvs) := hD.dictOf I.kIn
  obtain ⟨_, _, _, hs, _⟩ := id hD
  refine wpAny_notIn_of (knd := intKind X.prog X.w) (k := i) (by simp [intKind, Value.isInt]) hs dd.mapOf ?_
  rw [asVals_at, Option.isSome_map]
  exact ⟨.bl _, H, I.tok _, rfl, q⟩
def tIxK (K : PySem.W.Frag) (ta tb : TE) : TE := fun σ H Q => ta σ H fun x H1 => tb σ H1 fun y H2 => ∃ a kvs i f, x = .ref a ∧ y = .int i ∧ DicK K a kvs ∧ fnd kvs i = some f ∧ Q (.ref f) H2
theorem pe_ixK {o i : Expr} {pos : Pos} {td ty : TE} (ho : PE X o td) (hi : PE X i ty) (hs : NoSl i) : PE X (.Subscript o i pos) (tIxK X.K td ty) := by
  intro pins s σ H Q I h
  refine subD_of PySem.F.slot_dict_getitem.lookup hs (thn (ho pins s σ H _ I h) fun u s1 ⟨x, H1, I1, rx, q1⟩ => thn (hi pins s1 σ H1 _ I1 q1) fun iv s2 ⟨y, H2, I2, ry, a, kvs, k, f, ex, ey, hD, hf, q2⟩ => ?_)
  subst ex
  subst ey
  obtain rfl : u = Value.ref a := rx
  obtain ⟨t, rfl⟩ := ry
  have dd : s2.heap.DictOf (intKind X.prog X.w) a (asVals kvs) := hD.dictOf I2.kIn
  exact ⟨dd.typeIs, wpAny_getItem_of (knd := intKind X.prog X.w) (k := k) (by simp [intKind, Value.isInt]) dd.mapOf (v := .ref f) (by rw [asVals_at, hf]; rfl) ⟨.ref f, H2, I2.tok _, rfl, q2⟩⟩
/-- a call of a def that stands in a table -/
def tCallV (P : Program) (w : World) (K : PySem.W.Frag) (mg : Str → Option Value) (base : Heap) (k : Nat) (tf : TE) (t : TA) : TE := fun σ H Q => tf σ H fun v H1 => ∃ f fd ps sp, v = .ref f ∧ FnOk P w K mg base CX0 k f fd ps sp ∧ PySem.W.keepIn K (.ref f) = true ∧ Binds K fd ps [] ∧ t σ H1 fun vs H2 => sp vs H2 Q E0
theorem pe_callV {k : Nat} {fe e : Expr} {es : List Expr} {pos : Pos} {tf : TE} {t : TA} (hf : PE X fe tf) (hr : Room k X.A) (ha : PA X (e :: es) t)
    (hst : starEach (e :: es) X.env = (false, eval e X.env) :: starEach es X.env := by rfl) (hpl : (backTo pos (starEach es X.env)).any (·.1) = false := by rfl)
    (ht : eval (.Call fe (e :: es) [] pos) X.env = (do callWith pos (← eval fe X.env) [] (backTo pos (starEach (e :: es) X.env)) (backToKw pos (keywordEach [] X.env))) := by rfl) :
    PE X (.Call fe (e :: es) [] pos) (tCallV X.prog X.w X.K X.mg X.base k tf t) := by
  intro pins s σ H Q I h
  rw [ht]
  refine wpAny_bind (thn (hf pins s σ H _ I h) fun u s1 ⟨x, H1, I1, rx, f, fd, ps, sp, ex, F, hk, hb, q⟩ => ?_)
  subst ex
  obtain rfl : u = Value.ref f := rx
  refine PySem.W.callWith_K (h₀ := X.base) I.ok.mod.kin hk (thn (ha pos pins s1 σ H1 _ I1 q) fun us s2 ⟨vs, H2, I2, r, q2⟩ => ⟨I2.kIn, ?_⟩) hst hpl
  exact run_fn (dvs := []) F hr hb .nil pass0 I2 r (by rw [List.append_nil]; exact q2)
end
def top (i : Nat) : Stmt := PySem.Challenge.pw_smallgames_s01_answers.main.body.getD i (.Pass ⟨0, 0, 0, 0⟩)
abbrev s_Machine___init__ : Stmt := inClass (top 18) 0
theorem sc_Machine___init__ : FnScope ["self"] ["self"] (defScope s_Machine___init__) := ⟨rfl, rfl, rfl, by decide +kernel, rfl, by decide +kernel, by decide +kernel⟩
abbrev s_Machine_begin : Stmt := inClass (top 18) 1
theorem sc_Machine_begin : FnScope ["self", "seed"] ["self", "seed"] (defScope s_Machine_begin) := ⟨rfl, rfl, rfl, by decide +kernel, rfl, by decide +kernel, by decide +kernel⟩
abbrev s_put_with_vf : Stmt := top 20
theorem sc_put_with_vf : FnScope ["machine", "x", "value", "vf"] ["machine", "x", "value", "vf"] (defScope s_put_with_vf) := ⟨rfl, rfl, rfl, by decide +kernel, rfl, by decide +kernel, by decide +kernel⟩
abbrev s_put_y : Stmt := top 21
theorem sc_put_y : FnScope ["machine", "x", "vx", "vy"] ["machine", "x", "vx", "vy"] (defScope s_put_y) := ⟨rfl, rfl, rfl, by decide +kernel, rfl, by decide +kernel, by decide +kernel⟩
abbrev s_put_or : Stmt := top 22
theorem sc_put_or : FnScope ["machine", "x", "vx", "vy"] ["machine", "x", "vx", "vy"] (defScope s_put_or) := ⟨rfl, rfl, rfl, by decide +kernel, rfl, by decide +kernel, by decide +kernel⟩
abbrev s_put_and : Stmt := top 23
theorem sc_put_and : FnScope ["machine", "x", "vx", "vy"] ["machine", "x", "vx", "vy"] (defScope s_put_and) := ⟨rfl, rfl, rfl, by decide +kernel, rfl, by decide +kernel, by decide +kernel⟩
abbrev s_put_exclusive_or : Stmt := top 24
theorem sc_put_exclusive_or : FnScope ["machine", "x", "vx", "vy"] ["machine", "x", "vx", "vy"] (defScope s_put_exclusive_or) := ⟨rfl, rfl, rfl, by decide +kernel, rfl, by decide +kernel, by decide +kernel⟩
abbrev s_put_sum : Stmt := top 25
theorem sc_put_sum : FnScope ["machine", "x", "vx", "vy"] ["machine", "x", "vx", "vy"] (defScope s_put_sum) := ⟨rfl, rfl, rfl, by decide +kernel, rfl, by decide +kernel, by decide +kernel⟩
abbrev s_put_x_less_y : Stmt := top 26
theorem sc_put_x_less_y : FnScope ["machine", "x", "vx", "vy"] ["machine", "x", "vx", "vy"] (defScope s_put_x_less_y) := ⟨rfl, rfl, rfl, by decide +kernel, rfl, by decide +kernel, by decide +kernel⟩
abbrev s_put_y_less_x : Stmt := top 27
theorem sc_put_y_less_x : FnScope ["machine", "x", "vx", "vy"] ["machine", "x", "vx", "vy"] (defScope s_put_y_less_x) := ⟨rfl, rfl, rfl, by decide +kernel, rfl, by decide +kernel, by decide +kernel⟩
abbrev s_put_half : Stmt := top 28
theorem sc_put_half : FnScope ["machine", "x", "vx", "vy"] ["machine", "x", "vx", "vy"] (defScope s_put_half) := ⟨rfl, rfl, rfl, by decide +kernel, rfl, by decide +kernel, by decide +kernel⟩
abbrev s_put_double : Stmt := top 29
theorem sc_put_double : FnScope ["machine", "x", "vx", "vy"] ["machine", "x", "vx", "vy"] (defScope s_put_double) := ⟨rfl, rfl, rfl, by decide +kernel, rfl, by decide +kernel, by decide +kernel⟩
abbrev s_calculate : Stmt := top 31
theorem sc_calculate : FnScope ["machine", "x", "y", "n"] ["machine", "x", "y", "n"] (defScope s_calculate) := ⟨rfl, rfl, rfl, by decide +kernel, rfl, by decide +kernel, by decide +kernel⟩
abbrev s_next_chance : Stmt := top 34
theorem sc_next_chance : FnScope ["state"] ["state"] (defScope s_next_chance) := ⟨rfl, rfl, rfl, by decide +kernel, rfl, by decide +kernel, by decide +kernel⟩
abbrev s_screen_width : Stmt := top 40
theorem sc_screen_width : FnScope ["machine"] ["machine"] (defScope s_screen_width) := ⟨rfl, rfl, rfl, by decide +kernel, rfl, by decide +kernel, by decide +kernel⟩
abbrev s_darken : Stmt := top 41
theorem sc_darken : FnScope ["machine"] ["machine"] (defScope s_darken) := ⟨rfl, rfl, rfl, by decide +kernel, rfl, by decide +kernel, by decide +kernel⟩
abbrev s_make_small : Stmt := top 42
theorem sc_make_small : FnScope ["machine"] ["machine"] (defScope s_make_small) := ⟨rfl, rfl, rfl, by decide +kernel, rfl, by decide +kernel, by decide +kernel⟩
abbrev s_make_large : Stmt := top 43
theorem sc_make_large : FnScope ["machine"] ["machine"] (defScope s_make_large) := ⟨rfl, rfl, rfl, by decide +kernel, rfl, by decide +kernel, by decide +kernel⟩
abbrev s_move_down : Stmt := top 44
theorem sc_move_down : FnScope ["machine", "n", "staying"] ["machine", "n"] (defScope s_move_down) := ⟨rfl, rfl, rfl, by decide +kernel, rfl, by decide +kernel, by decide +kernel⟩
abbrev s_move_right : Stmt := top 45
theorem sc_move_right : FnScope ["machine", "row"] ["machine"] (defScope s_move_right) := ⟨rfl, rfl, rfl, by decide +kernel, rfl, by decide +kernel, by decide +kernel⟩
abbrev s_move_left : Stmt := top 46
theorem sc_move_left : FnScope ["machine", "limit", "row"] ["machine"] (defScope s_move_left) := ⟨rfl, rfl, rfl, by decide +kernel, rfl, by decide +kernel, by decide +kernel⟩
abbrev s_lay_shape : Stmt := top 47
theorem sc_lay_shape : FnScope ["machine", "x", "y", "shape", "shape_width", "rows", "width", "room", "top", "gone_out", "offset", "points", "turned"] ["machine", "x", "y", "shape", "shape_width"] (defScope s_lay_shape) := ⟨rfl, rfl, rfl, by decide +kernel, rfl, by decide +kernel, by decide +kernel⟩
abbrev s_fit_points : Stmt := top 48
theorem sc_fit_points : FnScope ["points", "shape_width", "room"] ["points", "shape_width", "room"] (defScope s_fit_points) := ⟨rfl, rfl, rfl, by decide +kernel, rfl, by decide +kernel, by decide +kernel⟩
abbrev s_screen_bytes : Stmt := top 49
theorem sc_screen_bytes : FnScope ["machine", "width", "told", "row", "shift"] ["machine"] (defScope s_screen_bytes) := ⟨rfl, rfl, rfl, by decide +kernel, rfl, by decide +kernel, by decide +kernel⟩
abbrev s_take_wait : Stmt := top 54
theorem sc_take_wait : FnScope ["machine", "x"] ["machine", "x"] (defScope s_take_wait) := ⟨rfl, rfl, rfl, by decide +kernel, rfl, by decide +kernel, by decide +kernel⟩
abbrev s_take_key : Stmt := top 55
theorem sc_take_key : FnScope ["machine", "x", "k"] ["machine", "x"] (defScope s_take_key) := ⟨rfl, rfl, rfl, by decide +kernel, rfl, by decide +kernel, by decide +kernel⟩
abbrev s_set_wait : Stmt := top 56
theorem sc_set_wait : FnScope ["machine", "x"] ["machine", "x"] (defScope s_set_wait) := ⟨rfl, rfl, rfl, by decide +kernel, rfl, by decide +kernel, by decide +kernel⟩
abbrev s_set_sound : Stmt := top 57
theorem sc_set_sound : FnScope ["machine", "x"] ["machine", "x"] (defScope s_set_sound) := ⟨rfl, rfl, rfl, by decide +kernel, rfl, by decide +kernel, by decide +kernel⟩
abbrev s_move_i_on : Stmt := top 58
theorem sc_move_i_on : FnScope ["machine", "x"] ["machine", "x"] (defScope s_move_i_on) := ⟨rfl, rfl, rfl, by decide +kernel, rfl, by decide +kernel, by decide +kernel⟩
abbrev s_point_at_digit : Stmt := top 59
theorem sc_point_at_digit : FnScope ["machine", "x"] ["machine", "x"] (defScope s_point_at_digit) := ⟨rfl, rfl, rfl, by decide +kernel, rfl, by decide +kernel, by decide +kernel⟩
abbrev s_point_at_large_digit : Stmt := top 60
theorem sc_point_at_large_digit : FnScope ["machine", "x"] ["machine", "x"] (defScope s_point_at_large_digit) := ⟨rfl, rfl, rfl, by decide +kernel, rfl, by decide +kernel, by decide +kernel⟩
abbrev s_write_decimal : Stmt := top 61
theorem sc_write_decimal : FnScope ["machine", "x", "value", "offset", "digit"] ["machine", "x"] (defScope s_write_decimal) := ⟨rfl, rfl, rfl, by decide +kernel, rfl, by decide +kernel, by decide +kernel⟩
abbrev s_write_registers : Stmt := top 62
theorem sc_write_registers : FnScope ["machine", "x", "k"] ["machine", "x"] (defScope s_write_registers) := ⟨rfl, rfl, rfl, by decide +kernel, rfl, by decide +kernel, by decide +kernel⟩
abbrev s_read_registers : Stmt := top 63
theorem sc_read_registers : FnScope ["machine", "x", "k"] ["machine", "x"] (defScope s_read_registers) := ⟨rfl, rfl, rfl, by decide +kernel, rfl, by decide +kernel, by decide +kernel⟩
abbrev s_keep_aside : Stmt := top 64
theorem sc_keep_aside : FnScope ["machine", "x", "k"] ["machine", "x"] (defScope s_keep_aside) := ⟨rfl, rfl, rfl, by decide +kernel, rfl, by decide +kernel, by decide +kernel⟩
abbrev s_take_from_aside : Stmt := top 65
theorem sc_take_from_aside : FnScope ["machine", "x", "k"] ["machine", "x"] (defScope s_take_from_aside) := ⟨rfl, rfl, rfl, by decide +kernel, rfl, by decide +kernel, by decide +kernel⟩
abbrev s_transfer : Stmt := top 67
theorem sc_transfer : FnScope ["machine", "x", "nn"] ["machine", "x", "nn"] (defScope s_transfer) := ⟨rfl, rfl, rfl, by decide +kernel, rfl, by decide +kernel, by decide +kernel⟩
abbrev s_digit_x : Stmt := top 69
theorem sc_digit_x : FnScope ["word"] ["word"] (defScope s_digit_x) := ⟨rfl, rfl, rfl, by decide +kernel, rfl, by decide +kernel, by decide +kernel⟩
abbrev s_digit_y : Stmt := top 70
theorem sc_digit_y : FnScope ["word"] ["word"] (defScope s_digit_y) := ⟨rfl, rfl, rfl, by decide +kernel, rfl, by decide +kernel, by decide +kernel⟩
abbrev s_value_x : Stmt := top 71
theorem sc_value_x : FnScope ["machine", "word"] ["machine", "word"] (defScope s_value_x) := ⟨rfl, rfl, rfl, by decide +kernel, rfl, by decide +kernel, by decide +kernel⟩
abbrev s_value_y : Stmt := top 72
theorem sc_value_y : FnScope ["machine", "word"] ["machine", "word"] (defScope s_value_y) := ⟨rfl, rfl, rfl, by decide +kernel, rfl, by decide +kernel, by decide +kernel⟩
abbrev s_go_to : Stmt := top 73
theorem sc_go_to : FnScope ["machine", "place"] ["machine", "place"] (defScope s_go_to) := ⟨rfl, rfl, rfl, by decide +kernel, rfl, by decide +kernel, by decide +kernel⟩
abbrev s_pass_over_if : Stmt := top 74
theorem sc_pass_over_if : FnScope ["machine", "wanted"] ["machine", "wanted"] (defScope s_pass_over_if) := ⟨rfl, rfl, rfl, by decide +kernel, rfl, by decide +kernel, by decide +kernel⟩
abbrev s_come_back : Stmt := top 75
theorem sc_come_back : FnScope ["machine"] ["machine"] (defScope s_come_back) := ⟨rfl, rfl, rfl, by decide +kernel, rfl, by decide +kernel, by decide +kernel⟩
abbrev s_change_screen : Stmt := top 76
theorem sc_change_screen : FnScope ["machine", "word"] ["machine", "word"] (defScope s_change_screen) := ⟨rfl, rfl, rfl, by decide +kernel, rfl, by decide +kernel, by decide +kernel⟩
abbrev s_do_without_registers : Stmt := top 77
theorem sc_do_without_registers : FnScope ["machine", "word"] ["machine", "word"] (defScope s_do_without_registers) := ⟨rfl, rfl, rfl, by decide +kernel, rfl, by decide +kernel, by decide +kernel⟩
abbrev s_jump : Stmt := top 78
theorem sc_jump : FnScope ["machine", "word"] ["machine", "word"] (defScope s_jump) := ⟨rfl, rfl, rfl, by decide +kernel, rfl, by decide +kernel, by decide +kernel⟩
abbrev s_jump_and_come_back : Stmt := top 79
theorem sc_jump_and_come_back : FnScope ["machine", "word"] ["machine", "word"] (defScope s_jump_and_come_back) := ⟨rfl, rfl, rfl, by decide +kernel, rfl, by decide +kernel, by decide +kernel⟩
abbrev s_pass_if_number : Stmt := top 80
theorem sc_pass_if_number : FnScope ["machine", "word"] ["machine", "word"] (defScope s_pass_if_number) := ⟨rfl, rfl, rfl, by decide +kernel, rfl, by decide +kernel, by decide +kernel⟩
abbrev s_pass_if_not_number : Stmt := top 81
theorem sc_pass_if_not_number : FnScope ["machine", "word"] ["machine", "word"] (defScope s_pass_if_not_number) := ⟨rfl, rfl, rfl, by decide +kernel, rfl, by decide +kernel, by decide +kernel⟩
abbrev s_pass_if_equal : Stmt := top 82
theorem sc_pass_if_equal : FnScope ["machine", "word"] ["machine", "word"] (defScope s_pass_if_equal) := ⟨rfl, rfl, rfl, by decide +kernel, rfl, by decide +kernel, by decide +kernel⟩
abbrev s_put_number : Stmt := top 83
theorem sc_put_number : FnScope ["machine", "word"] ["machine", "word"] (defScope s_put_number) := ⟨rfl, rfl, rfl, by decide +kernel, rfl, by decide +kernel, by decide +kernel⟩
abbrev s_add_number : Stmt := top 84
theorem sc_add_number : FnScope ["machine", "word"] ["machine", "word"] (defScope s_add_number) := ⟨rfl, rfl, rfl, by decide +kernel, rfl, by decide +kernel, by decide +kernel⟩
abbrev s_do_calculation : Stmt := top 85
theorem sc_do_calculation : FnScope ["machine", "word"] ["machine", "word"] (defScope s_do_calculation) := ⟨rfl, rfl, rfl, by decide +kernel, rfl, by decide +kernel, by decide +kernel⟩
abbrev s_pass_if_unequal : Stmt := top 86
theorem sc_pass_if_unequal : FnScope ["machine", "word"] ["machine", "word"] (defScope s_pass_if_unequal) := ⟨rfl, rfl, rfl, by decide +kernel, rfl, by decide +kernel, by decide +kernel⟩
abbrev s_put_i : Stmt := top 87
theorem sc_put_i : FnScope ["machine", "word"] ["machine", "word"] (defScope s_put_i) := ⟨rfl, rfl, rfl, by decide +kernel, rfl, by decide +kernel, by decide +kernel⟩
abbrev s_jump_further : Stmt := top 88
theorem sc_jump_further : FnScope ["machine", "word"] ["machine", "word"] (defScope s_jump_further) := ⟨rfl, rfl, rfl, by decide +kernel, rfl, by decide +kernel, by decide +kernel⟩
abbrev s_take_chance : Stmt := top 89
theorem sc_take_chance : FnScope ["machine", "word"] ["machine", "word"] (defScope s_take_chance) := ⟨rfl, rfl, rfl, by decide +kernel, rfl, by decide +kernel, by decide +kernel⟩
abbrev s_draw : Stmt := top 90
theorem sc_draw : FnScope ["machine", "word", "n", "shape", "shape_width", "gone_out"] ["machine", "word"] (defScope s_draw) := ⟨rfl, rfl, rfl, by decide +kernel, rfl, by decide +kernel, by decide +kernel⟩
abbrev s_narrow_shape : Stmt := top 91
theorem sc_narrow_shape : FnScope ["machine", "row_count", "offset"] ["machine", "row_count"] (defScope s_narrow_shape) := ⟨rfl, rfl, rfl, by decide +kernel, rfl, by decide +kernel, by decide +kernel⟩
abbrev s_wide_shape : Stmt := top 92
theorem sc_wide_shape : FnScope ["machine", "offset"] ["machine"] (defScope s_wide_shape) := ⟨rfl, rfl, rfl, by decide +kernel, rfl, by decide +kernel, by decide +kernel⟩
abbrev s_word_at : Stmt := top 93
theorem sc_word_at : FnScope ["machine", "place"] ["machine", "place"] (defScope s_word_at) := ⟨rfl, rfl, rfl, by decide +kernel, rfl, by decide +kernel, by decide +kernel⟩
abbrev s_pass_by_key : Stmt := top 94
theorem sc_pass_by_key : FnScope ["machine", "word", "down"] ["machine", "word"] (defScope s_pass_by_key) := ⟨rfl, rfl, rfl, by decide +kernel, rfl, by decide +kernel, by decide +kernel⟩
abbrev s_do_transfer : Stmt := top 95
theorem sc_do_transfer : FnScope ["machine", "word"] ["machine", "word"] (defScope s_do_transfer) := ⟨rfl, rfl, rfl, by decide +kernel, rfl, by decide +kernel, by decide +kernel⟩
abbrev s_do_instruction : Stmt := top 97
theorem sc_do_instruction : FnScope ["machine", "place", "word", "stop"] ["machine"] (defScope s_do_instruction) := ⟨rfl, rfl, rfl, by decide +kernel, rfl, by decide +kernel, by decide +kernel⟩
abbrev s_c8_clear : Stmt := top 107
theorem sc_c8_clear : FnScope ["machine", "seed"] ["machine", "seed"] (defScope s_c8_clear) := ⟨rfl, rfl, rfl, by decide +kernel, rfl, by decide +kernel, by decide +kernel⟩
abbrev s_c8_load : Stmt := top 108
theorem sc_c8_load : FnScope ["machine", "at", "data", "offset", "value"] ["machine", "at", "data"] (defScope s_c8_load) := ⟨rfl, rfl, rfl, by decide +kernel, rfl, by decide +kernel, by decide +kernel⟩
abbrev s_c8_look : Stmt := top 109
theorem sc_c8_look : FnScope ["machine", "at", "n"] ["machine", "at", "n"] (defScope s_c8_look) := ⟨rfl, rfl, rfl, by decide +kernel, rfl, by decide +kernel, by decide +kernel⟩
abbrev s_is_in_memory : Stmt := top 110
theorem sc_is_in_memory : FnScope ["at", "n"] ["at", "n"] (defScope s_is_in_memory) := ⟨rfl, rfl, rfl, by decide +kernel, rfl, by decide +kernel, by decide +kernel⟩
abbrev s_c8_key : Stmt := top 111
theorem sc_c8_key : FnScope ["machine", "k", "down"] ["machine", "k", "down"] (defScope s_c8_key) := ⟨rfl, rfl, rfl, by decide +kernel, rfl, by decide +kernel, by decide +kernel⟩
abbrev s_c8_tick : Stmt := top 112
theorem sc_c8_tick : FnScope ["machine", "sounding"] ["machine"] (defScope s_c8_tick) := ⟨rfl, rfl, rfl, by decide +kernel, rfl, by decide +kernel, by decide +kernel⟩
abbrev s_one_less : Stmt := top 113
theorem sc_one_less : FnScope ["timer"] ["timer"] (defScope s_one_less) := ⟨rfl, rfl, rfl, by decide +kernel, rfl, by decide +kernel, by decide +kernel⟩
abbrev s_c8_run : Stmt := top 114
theorem sc_c8_run : FnScope ["machine", "n", "done", "stop"] ["machine", "n"] (defScope s_c8_run) := ⟨rfl, rfl, rfl, by decide +kernel, rfl, by decide +kernel, by decide +kernel⟩
abbrev s_c8_why : Stmt := top 115
theorem sc_c8_why : FnScope ["machine"] ["machine"] (defScope s_c8_why) := ⟨rfl, rfl, rfl, by decide +kernel, rfl, by decide +kernel, by decide +kernel⟩
abbrev s_c8_get : Stmt := top 116
theorem sc_c8_get : FnScope ["machine", "which"] ["machine", "which"] (defScope s_c8_get) := ⟨rfl, rfl, rfl, by decide +kernel, rfl, by decide +kernel, by decide +kernel⟩
abbrev s_c8_set : Stmt := top 117
theorem sc_c8_set : FnScope ["machine", "which", "value"] ["machine", "which", "value"] (defScope s_c8_set) := ⟨rfl, rfl, rfl, by decide +kernel, rfl, by decide +kernel, by decide +kernel⟩
abbrev s_c8_screen : Stmt := top 118
theorem sc_c8_screen : FnScope ["machine"] ["machine"] (defScope s_c8_screen) := ⟨rfl, rfl, rfl, by decide +kernel, rfl, by decide +kernel, by decide +kernel⟩
abbrev s_Reader___init__ : Stmt := inClass (top 120) 0
theorem sc_Reader___init__ : FnScope ["self", "numbers"] ["self", "numbers"] (defScope s_Reader___init__) := ⟨rfl, rfl, rfl, by decide +kernel, rfl, by decide +kernel, by decide +kernel⟩
abbrev s_Reader_has_more : Stmt := inClass (top 120) 1
theorem sc_Reader_has_more : FnScope ["self"] ["self"] (defScope s_Reader_has_more) := ⟨rfl, rfl, rfl, by decide +kernel, rfl, by decide +kernel, by decide +kernel⟩
abbrev s_Reader_take : Stmt := inClass (top 120) 2
theorem sc_Reader_take : FnScope ["self", "number"] ["self"] (defScope s_Reader_take) := ⟨rfl, rfl, rfl, by decide +kernel, rfl, by decide +kernel, by decide +kernel⟩
abbrev s_Reader_take_row : Stmt := inClass (top 120) 3
theorem sc_Reader_take_row : FnScope ["self", "length", "row"] ["self"] (defScope s_Reader_take_row) := ⟨rfl, rfl, rfl, by decide +kernel, rfl, by decide +kernel, by decide +kernel⟩
abbrev s_answers : Stmt := top 132
theorem sc_answers : FnScope ["calls", "machine", "reader", "answered", "answer"] ["calls"] (defScope s_answers) := ⟨rfl, rfl, rfl, by decide +kernel, rfl, by decide +kernel, by decide +kernel⟩
abbrev s_answer_call : Stmt := top 133
theorem sc_answer_call : FnScope ["machine", "reader", "number", "at", "k", "which"] ["machine", "reader"] (defScope s_answer_call) := ⟨rfl, rfl, rfl, by decide +kernel, rfl, by decide +kernel, by decide +kernel⟩
structure Ad where
  c_Machine : Addr
  c_Reader : Addr
  a_Machine___init__ : Addr
  d_Machine___init__ : FuncData
  a_Machine_begin : Addr
  d_Machine_begin : FuncData
  a_put_with_vf : Addr
  d_put_with_vf : FuncData
  a_put_y : Addr
  d_put_y : FuncData
  a_put_or : Addr
  d_put_or : FuncData
  a_put_and : Addr
  d_put_and : FuncData
  a_put_exclusive_or : Addr
  d_put_exclusive_or : FuncData
  a_put_sum : Addr
  d_put_sum : FuncData
  a_put_x_less_y : Addr
  d_put_x_less_y : FuncData
  a_put_y_less_x : Addr
  d_put_y_less_x : FuncData
  a_put_half : Addr
  d_put_half : FuncData
  a_put_double : Addr
  d_put_double : FuncData
  a_calculate : Addr
  d_calculate : FuncData
  a_next_chance : Addr
  d_next_chance : FuncData
  a_screen_width : Addr
  d_screen_width : FuncData
  a_darken : Addr
  d_darken : FuncData
  a_make_small : Addr
  d_make_small : FuncData
  a_make_large : Addr
  d_make_large : FuncData
  a_move_down : Addr
  d_move_down : FuncData
  a_move_right : Addr
  d_move_right : FuncData
  a_move_left : Addr
  d_move_left : FuncData
  a_lay_shape : Addr
  d_lay_shape : FuncData
  a_fit_points : Addr
  d_fit_points : FuncData
  a_screen_bytes : Addr
  d_screen_bytes : FuncData
  a_take_wait : Addr
  d_take_wait : FuncData
  a_take_key : Addr
  d_take_key : FuncData
  a_set_wait : Addr
  d_set_wait : FuncData
  a_set_sound : Addr
  d_set_sound : FuncData
  a_move_i_on : Addr
  d_move_i_on : FuncData
  a_point_at_digit : Addr
  d_point_at_digit : FuncData
  a_point_at_large_digit : Addr
  d_point_at_large_digit : FuncData
  a_write_decimal : Addr
  d_write_decimal : FuncData
  a_write_registers : Addr
  d_write_registers : FuncData
  a_read_registers : Addr
  d_read_registers : FuncData
  a_keep_aside : Addr
  d_keep_aside : FuncData
  a_take_from_aside : Addr
  d_take_from_aside : FuncData
  a_transfer : Addr
  d_transfer : FuncData
  a_digit_x : Addr
  d_digit_x : FuncData
  a_digit_y : Addr
  d_digit_y : FuncData
  a_value_x : Addr
  d_value_x : FuncData
  a_value_y : Addr
  d_value_y : FuncData
  a_go_to : Addr
  d_go_to : FuncData
  a_pass_over_if : Addr
  d_pass_over_if : FuncData
  a_come_back : Addr
  d_come_back : FuncData
  a_change_screen : Addr
  d_change_screen : FuncData
  a_do_without_registers : Addr
  d_do_without_registers : FuncData
  a_jump : Addr
  d_jump : FuncData
  a_jump_and_come_back : Addr
  d_jump_and_come_back : FuncData
  a_pass_if_number : Addr
  d_pass_if_number : FuncData
  a_pass_if_not_number : Addr
  d_pass_if_not_number : FuncData
  a_pass_if_equal : Addr
  d_pass_if_equal : FuncData
  a_put_number : Addr
  d_put_number : FuncData
  a_add_number : Addr
  d_add_number : FuncData
  a_do_calculation : Addr
  d_do_calculation : FuncData
  a_pass_if_unequal : Addr
  d_pass_if_unequal : FuncData
  a_put_i : Addr
  d_put_i : FuncData
  a_jump_further : Addr
  d_jump_further : FuncData
  a_take_chance : Addr
  d_take_chance : FuncData
  a_draw : Addr
  d_draw : FuncData
  a_narrow_shape : Addr
  d_narrow_shape : FuncData
  a_wide_shape : Addr
  d_wide_shape : FuncData
  a_word_at : Addr
  d_word_at : FuncData
  a_pass_by_key : Addr
  d_pass_by_key : FuncData
  a_do_transfer : Addr
  d_do_transfer : FuncData
  a_do_instruction : Addr
  d_do_instruction : FuncData
  a_c8_clear : Addr
  d_c8_clear : FuncData
  a_c8_load : Addr
  d_c8_load : FuncData
  a_c8_look : Addr
  d_c8_look : FuncData
  a_is_in_memory : Addr
  d_is_in_memory : FuncData
  a_c8_key : Addr
  d_c8_key : FuncData
  a_c8_tick : Addr
  d_c8_tick : FuncData
  a_one_less : Addr
  d_one_less : FuncData
  a_c8_run : Addr
  d_c8_run : FuncData
  a_c8_why : Addr
  d_c8_why : FuncData
  a_c8_get : Addr
  d_c8_get : FuncData
  a_c8_set : Addr
  d_c8_set : FuncData
  a_c8_screen : Addr
  d_c8_screen : FuncData
  a_Reader___init__ : Addr
  d_Reader___init__ : FuncData
  a_Reader_has_more : Addr
  d_Reader_has_more : FuncData
  a_Reader_take : Addr
  d_Reader_take : FuncData
  a_Reader_take_row : Addr
  d_Reader_take_row : FuncData
  a_answers : Addr
  d_answers : FuncData
  a_answer_call : Addr
  d_answer_call : FuncData
  k_DIGITS : Addr
  k_CALCULATIONS : Addr
  k_TRANSFERS : Addr
  k_BY_FIRST_DIGIT : Addr
structure Txt (K : PySem.W.Frag) (mg : Str → Option Value) (A : Ad) : Prop where
  n_enumerate : mg "enumerate" = none
  n_len : mg "len" = none
  n_list : mg "list" = none
  n_range : mg "range" = none
  g_GOES_ON : GInt mg "GOES_ON" (0)
  g_UNKNOWN : GInt mg "UNKNOWN" (1)
  g_NO_KEY : GInt mg "NO_KEY" (2)
  g_WRONG_PLACES : GInt mg "WRONG_PLACES" (3)
  g_ENDED : GInt mg "ENDED" (4)
  g_MEMORY_SIZE : GInt mg "MEMORY_SIZE" (4096)
  g_BYTE_COUNT : GInt mg "BYTE_COUNT" (256)
  g_WORD_COUNT : GInt mg "WORD_COUNT" (65536)
  g_REGISTER_COUNT : GInt mg "REGISTER_COUNT" (16)
  g_VF : GInt mg "VF" (15)
  g_KEY_COUNT : GInt mg "KEY_COUNT" (16)
  g_ASIDE_COUNT : GInt mg "ASIDE_COUNT" (8)
  g_PLACE_COUNT : GInt mg "PLACE_COUNT" (16)
  g_FIRST_PC : GInt mg "FIRST_PC" (512)
  g_SMALL_HEIGHT : GInt mg "SMALL_HEIGHT" (32)
  g_LARGE_HEIGHT : GInt mg "LARGE_HEIGHT" (64)
  g_DIGITS : mg "DIGITS" = some (.ref A.k_DIGITS)
  t_DIGITS : TupK K A.k_DIGITS (List.map V.int [240, 144, 144, 144, 240, 32, 96, 32, 32, 112, 240, 16, 240, 128, 240, 240, 16, 240, 16, 240, 144, 144, 240, 16, 16, 240, 128, 240, 16, 240, 240, 128, 240, 144, 240, 240, 16, 32, 64, 64, 240, 144, 240, 144, 240, 240, 144, 240, 16, 240, 240, 144, 240, 144, 144, 224, 144, 224, 144, 224, 240, 128, 128, 128, 240, 224, 144, 144, 144, 224, 240, 128, 240, 128, 240, 240, 128, 240, 128, 128])
  g_STATE_COUNT : GInt mg "STATE_COUNT" (4294967296)
  g_SMALL_WIDTH : GInt mg "SMALL_WIDTH" (64)
  g_LARGE_WIDTH : GInt mg "LARGE_WIDTH" (128)
  g_SCREEN_BYTES : GInt mg "SCREEN_BYTES" (1024)
  g_COLUMNS_MOVED : GInt mg "COLUMNS_MOVED" (4)
  g_DIGIT_BYTES : GInt mg "DIGIT_BYTES" (5)
  g_LARGE_DIGITS_AT : GInt mg "LARGE_DIGITS_AT" (80)
  g_LARGE_DIGIT_BYTES : GInt mg "LARGE_DIGIT_BYTES" (10)
  g_DONE : GInt mg "DONE" (0)
  g_REFUSED : GInt mg "REFUSED" (-1)
  g_LONGEST_RUN : GInt mg "LONGEST_RUN" (1000000)
  g_I_REGISTER : GInt mg "I_REGISTER" (16)
  g_PC_REGISTER : GInt mg "PC_REGISTER" (17)
  g_WAIT_TIMER : GInt mg "WAIT_TIMER" (18)
  g_SOUND_TIMER : GInt mg "SOUND_TIMER" (19)
  g_PLACES_THERE : GInt mg "PLACES_THERE" (20)
  g_CLEAR : GInt mg "CLEAR" (1)
  g_LOAD : GInt mg "LOAD" (2)
  g_LOOK : GInt mg "LOOK" (3)
  g_KEY : GInt mg "KEY" (4)
  g_TICK : GInt mg "TICK" (5)
  g_RUN : GInt mg "RUN" (6)
  g_WHY : GInt mg "WHY" (7)
  g_GET : GInt mg "GET" (8)
  g_SET : GInt mg "SET" (9)
  g_SCREEN : GInt mg "SCREEN" (10)
  g_CALCULATIONS : mg "CALCULATIONS" = some (.ref A.k_CALCULATIONS)
  t_CALCULATIONS : DicK K A.k_CALCULATIONS [(0, A.a_put_y), (1, A.a_put_or), (2, A.a_put_and), (3, A.a_put_exclusive_or), (4, A.a_put_sum), (5, A.a_put_x_less_y), (6, A.a_put_half), (7, A.a_put_y_less_x), (14, A.a_put_double)]
  g_TRANSFERS : mg "TRANSFERS" = some (.ref A.k_TRANSFERS)
  t_TRANSFERS : DicK K A.k_TRANSFERS [(7, A.a_take_wait), (10, A.a_take_key), (21, A.a_set_wait), (24, A.a_set_sound), (30, A.a_move_i_on), (41, A.a_point_at_digit), (48, A.a_point_at_large_digit), (51, A.a_write_decimal), (85, A.a_write_registers), (101, A.a_read_registers), (117, A.a_keep_aside), (133, A.a_take_from_aside)]
  g_BY_FIRST_DIGIT : mg "BY_FIRST_DIGIT" = some (.ref A.k_BY_FIRST_DIGIT)
  t_BY_FIRST_DIGIT : TupK K A.k_BY_FIRST_DIGIT [V.ref A.a_do_without_registers, V.ref A.a_jump, V.ref A.a_jump_and_come_back, V.ref A.a_pass_if_number, V.ref A.a_pass_if_not_number, V.ref A.a_pass_if_equal, V.ref A.a_put_number, V.ref A.a_add_number, V.ref A.a_do_calculation, V.ref A.a_pass_if_unequal, V.ref A.a_put_i, V.ref A.a_jump_further, V.ref A.a_take_chance, V.ref A.a_draw, V.ref A.a_pass_by_key, V.ref A.a_do_transfer]
  g_Machine : mg "Machine" = some (.ref A.c_Machine)
  cl_Machine : Cls K A.c_Machine
  mk_Machine : Mk K A.c_Machine A.a_Machine___init__
  x_Machine_aside : NoAttr K A.c_Machine "aside"
  x_Machine_chance : NoAttr K A.c_Machine "chance"
  x_Machine_has_more : NoAttr K A.c_Machine "has_more"
  x_Machine_i : NoAttr K A.c_Machine "i"
  x_Machine_large : NoAttr K A.c_Machine "large"
  x_Machine_memory : NoAttr K A.c_Machine "memory"
  x_Machine_numbers : NoAttr K A.c_Machine "numbers"
  x_Machine_pc : NoAttr K A.c_Machine "pc"
  x_Machine_place : NoAttr K A.c_Machine "place"
  x_Machine_places : NoAttr K A.c_Machine "places"
  x_Machine_pressed : NoAttr K A.c_Machine "pressed"
  x_Machine_registers : NoAttr K A.c_Machine "registers"
  x_Machine_rows : NoAttr K A.c_Machine "rows"
  x_Machine_sound : NoAttr K A.c_Machine "sound"
  x_Machine_stopped_by : NoAttr K A.c_Machine "stopped_by"
  x_Machine_take : NoAttr K A.c_Machine "take"
  x_Machine_take_row : NoAttr K A.c_Machine "take_row"
  x_Machine_wait : NoAttr K A.c_Machine "wait"
  g_Reader : mg "Reader" = some (.ref A.c_Reader)
  cl_Reader : Cls K A.c_Reader
  mk_Reader : Mk K A.c_Reader A.a_Reader___init__
  x_Reader_aside : NoAttr K A.c_Reader "aside"
  x_Reader_begin : NoAttr K A.c_Reader "begin"
  x_Reader_chance : NoAttr K A.c_Reader "chance"
  x_Reader_i : NoAttr K A.c_Reader "i"
  x_Reader_large : NoAttr K A.c_Reader "large"
  x_Reader_memory : NoAttr K A.c_Reader "memory"
  x_Reader_numbers : NoAttr K A.c_Reader "numbers"
  x_Reader_pc : NoAttr K A.c_Reader "pc"
  x_Reader_place : NoAttr K A.c_Reader "place"
  x_Reader_places : NoAttr K A.c_Reader "places"
  x_Reader_pressed : NoAttr K A.c_Reader "pressed"
  x_Reader_registers : NoAttr K A.c_Reader "registers"
  x_Reader_rows : NoAttr K A.c_Reader "rows"
  x_Reader_sound : NoAttr K A.c_Reader "sound"
  x_Reader_stopped_by : NoAttr K A.c_Reader "stopped_by"
  x_Reader_wait : NoAttr K A.c_Reader "wait"
  f_Machine___init__ : Fun K "__init__" "Machine.__init__" s_Machine___init__ A.a_Machine___init__ A.d_Machine___init__
  b_Machine___init__ : Binds K A.d_Machine___init__ ["self"] []
  m_Machine___init__ : Meth K A.c_Machine "__init__" A.a_Machine___init__
  f_Machine_begin : Fun K "begin" "Machine.begin" s_Machine_begin A.a_Machine_begin A.d_Machine_begin
  b_Machine_begin : Binds K A.d_Machine_begin ["self", "seed"] []
  m_Machine_begin : Meth K A.c_Machine "begin" A.a_Machine_begin
  f_put_with_vf : Fun K "put_with_vf" "put_with_vf" s_put_with_vf A.a_put_with_vf A.d_put_with_vf
  b_put_with_vf : Binds K A.d_put_with_vf ["machine", "x", "value", "vf"] []
  g_put_with_vf : mg "put_with_vf" = some (.ref A.a_put_with_vf)
  f_put_y : Fun K "put_y" "put_y" s_put_y A.a_put_y A.d_put_y
  b_put_y : Binds K A.d_put_y ["machine", "x", "vx", "vy"] []
  g_put_y : mg "put_y" = some (.ref A.a_put_y)
  f_put_or : Fun K "put_or" "put_or" s_put_or A.a_put_or A.d_put_or
  b_put_or : Binds K A.d_put_or ["machine", "x", "vx", "vy"] []
  g_put_or : mg "put_or" = some (.ref A.a_put_or)
  f_put_and : Fun K "put_and" "put_and" s_put_and A.a_put_and A.d_put_and
  b_put_and : Binds K A.d_put_and ["machine", "x", "vx", "vy"] []
  g_put_and : mg "put_and" = some (.ref A.a_put_and)
  f_put_exclusive_or : Fun K "put_exclusive_or" "put_exclusive_or" s_put_exclusive_or A.a_put_exclusive_or A.d_put_exclusive_or
  b_put_exclusive_or : Binds K A.d_put_exclusive_or ["machine", "x", "vx", "vy"] []
  g_put_exclusive_or : mg "put_exclusive_or" = some (.ref A.a_put_exclusive_or)
  f_put_sum : Fun K "put_sum" "put_sum" s_put_sum A.a_put_sum A.d_put_sum
  b_put_sum : Binds K A.d_put_sum ["machine", "x", "vx", "vy"] []
  g_put_sum : mg "put_sum" = some (.ref A.a_put_sum)
  f_put_x_less_y : Fun K "put_x_less_y" "put_x_less_y" s_put_x_less_y A.a_put_x_less_y A.d_put_x_less_y
  b_put_x_less_y : Binds K A.d_put_x_less_y ["machine", "x", "vx", "vy"] []
  g_put_x_less_y : mg "put_x_less_y" = some (.ref A.a_put_x_less_y)
  f_put_y_less_x : Fun K "put_y_less_x" "put_y_less_x" s_put_y_less_x A.a_put_y_less_x A.d_put_y_less_x
  b_put_y_less_x : Binds K A.d_put_y_less_x ["machine", "x", "vx", "vy"] []
  g_put_y_less_x : mg "put_y_less_x" = some (.ref A.a_put_y_less_x)
  f_put_half : Fun K "put_half" "put_half" s_put_half A.a_put_half A.d_put_half
  b_put_half : Binds K A.d_put_half ["machine", "x", "vx", "vy"] []
  g_put_half : mg "put_half" = some (.ref A.a_put_half)
  f_put_double : Fun K "put_double" "put_double" s_put_double A.a_put_double A.d_put_double
  b_put_double : Binds K A.d_put_double ["machine", "x", "vx", "vy"] []
  g_put_double : mg "put_double" = some (.ref A.a_put_double)
  f_calculate : Fun K "calculate" "calculate" s_calculate A.a_calculate A.d_calculate
  b_calculate : Binds K A.d_calculate ["machine", "x", "y", "n"] []
  g_calculate : mg "calculate" = some (.ref A.a_calculate)
  f_next_chance : Fun K "next_chance" "next_chance" s_next_chance A.a_next_chance A.d_next_chance
  b_next_chance : Binds K A.d_next_chance ["state"] []
  g_next_chance : mg "next_chance" = some (.ref A.a_next_chance)
  f_screen_width : Fun K "screen_width" "screen_width" s_screen_width A.a_screen_width A.d_screen_width
  b_screen_width : Binds K A.d_screen_width ["machine"] []
  g_screen_width : mg "screen_width" = some (.ref A.a_screen_width)
  f_darken : Fun K "darken" "darken" s_darken A.a_darken A.d_darken
  b_darken : Binds K A.d_darken ["machine"] []
  g_darken : mg "darken" = some (.ref A.a_darken)
  f_make_small : Fun K "make_small" "make_small" s_make_small A.a_make_small A.d_make_small
  b_make_small : Binds K A.d_make_small ["machine"] []
  g_make_small : mg "make_small" = some (.ref A.a_make_small)
  f_make_large : Fun K "make_large" "make_large" s_make_large A.a_make_large A.d_make_large
  b_make_large : Binds K A.d_make_large ["machine"] []
  g_make_large : mg "make_large" = some (.ref A.a_make_large)
  f_move_down : Fun K "move_down" "move_down" s_move_down A.a_move_down A.d_move_down
  b_move_down : Binds K A.d_move_down ["machine", "n"] []
  g_move_down : mg "move_down" = some (.ref A.a_move_down)
  f_move_right : Fun K "move_right" "move_right" s_move_right A.a_move_right A.d_move_right
  b_move_right : Binds K A.d_move_right ["machine"] []
  g_move_right : mg "move_right" = some (.ref A.a_move_right)
  f_move_left : Fun K "move_left" "move_left" s_move_left A.a_move_left A.d_move_left
  b_move_left : Binds K A.d_move_left ["machine"] []
  g_move_left : mg "move_left" = some (.ref A.a_move_left)
  f_lay_shape : Fun K "lay_shape" "lay_shape" s_lay_shape A.a_lay_shape A.d_lay_shape
  b_lay_shape : Binds K A.d_lay_shape ["machine", "x", "y", "shape", "shape_width"] []
  g_lay_shape : mg "lay_shape" = some (.ref A.a_lay_shape)
  f_fit_points : Fun K "fit_points" "fit_points" s_fit_points A.a_fit_points A.d_fit_points
  b_fit_points : Binds K A.d_fit_points ["points", "shape_width", "room"] []
  g_fit_points : mg "fit_points" = some (.ref A.a_fit_points)
  f_screen_bytes : Fun K "screen_bytes" "screen_bytes" s_screen_bytes A.a_screen_bytes A.d_screen_bytes
  b_screen_bytes : Binds K A.d_screen_bytes ["machine"] []
  g_screen_bytes : mg "screen_bytes" = some (.ref A.a_screen_bytes)
  f_take_wait : Fun K "take_wait" "take_wait" s_take_wait A.a_take_wait A.d_take_wait
  b_take_wait : Binds K A.d_take_wait ["machine", "x"] []
  g_take_wait : mg "take_wait" = some (.ref A.a_take_wait)
  f_take_key : Fun K "take_key" "take_key" s_take_key A.a_take_key A.d_take_key
  b_take_key : Binds K A.d_take_key ["machine", "x"] []
  g_take_key : mg "take_key" = some (.ref A.a_take_key)
  f_set_wait : Fun K "set_wait" "set_wait" s_set_wait A.a_set_wait A.d_set_wait
  b_set_wait : Binds K A.d_set_wait ["machine", "x"] []
  g_set_wait : mg "set_wait" = some (.ref A.a_set_wait)
  f_set_sound : Fun K "set_sound" "set_sound" s_set_sound A.a_set_sound A.d_set_sound
  b_set_sound : Binds K A.d_set_sound ["machine", "x"] []
  g_set_sound : mg "set_sound" = some (.ref A.a_set_sound)
  f_move_i_on : Fun K "move_i_on" "move_i_on" s_move_i_on A.a_move_i_on A.d_move_i_on
  b_move_i_on : Binds K A.d_move_i_on ["machine", "x"] []
  g_move_i_on : mg "move_i_on" = some (.ref A.a_move_i_on)
  f_point_at_digit : Fun K "point_at_digit" "point_at_digit" s_point_at_digit A.a_point_at_digit A.d_point_at_digit
  b_point_at_digit : Binds K A.d_point_at_digit ["machine", "x"] []
  g_point_at_digit : mg "point_at_digit" = some (.ref A.a_point_at_digit)
  f_point_at_large_digit : Fun K "point_at_large_digit" "point_at_large_digit" s_point_at_large_digit A.a_point_at_large_digit A.d_point_at_large_digit
  b_point_at_large_digit : Binds K A.d_point_at_large_digit ["machine", "x"] []
  g_point_at_large_digit : mg "point_at_large_digit" = some (.ref A.a_point_at_large_digit)
  f_write_decimal : Fun K "write_decimal" "write_decimal" s_write_decimal A.a_write_decimal A.d_write_decimal
  b_write_decimal : Binds K A.d_write_decimal ["machine", "x"] []
  g_write_decimal : mg "write_decimal" = some (.ref A.a_write_decimal)
  f_write_registers : Fun K "write_registers" "write_registers" s_write_registers A.a_write_registers A.d_write_registers
  b_write_registers : Binds K A.d_write_registers ["machine", "x"] []
  g_write_registers : mg "write_registers" = some (.ref A.a_write_registers)
  f_read_registers : Fun K "read_registers" "read_registers" s_read_registers A.a_read_registers A.d_read_registers
  b_read_registers : Binds K A.d_read_registers ["machine", "x"] []
  g_read_registers : mg "read_registers" = some (.ref A.a_read_registers)
  f_keep_aside : Fun K "keep_aside" "keep_aside" s_keep_aside A.a_keep_aside A.d_keep_aside
  b_keep_aside : Binds K A.d_keep_aside ["machine", "x"] []
  g_keep_aside : mg "keep_aside" = some (.ref A.a_keep_aside)
  f_take_from_aside : Fun K "take_from_aside" "take_from_aside" s_take_from_aside A.a_take_from_aside A.d_take_from_aside
  b_take_from_aside : Binds K A.d_take_from_aside ["machine", "x"] []
  g_take_from_aside : mg "take_from_aside" = some (.ref A.a_take_from_aside)
  f_transfer : Fun K "transfer" "transfer" s_transfer A.a_transfer A.d_transfer
  b_transfer : Binds K A.d_transfer ["machine", "x", "nn"] []
  g_transfer : mg "transfer" = some (.ref A.a_transfer)
  f_digit_x : Fun K "digit_x" "digit_x" s_digit_x A.a_digit_x A.d_digit_x
  b_digit_x : Binds K A.d_digit_x ["word"] []
  g_digit_x : mg "digit_x" = some (.ref A.a_digit_x)
  f_digit_y : Fun K "digit_y" "digit_y" s_digit_y A.a_digit_y A.d_digit_y
  b_digit_y : Binds K A.d_digit_y ["word"] []
  g_digit_y : mg "digit_y" = some (.ref A.a_digit_y)
  f_value_x : Fun K "value_x" "value_x" s_value_x A.a_value_x A.d_value_x
  b_value_x : Binds K A.d_value_x ["machine", "word"] []
  g_value_x : mg "value_x" = some (.ref A.a_value_x)
  f_value_y : Fun K "value_y" "value_y" s_value_y A.a_value_y A.d_value_y
  b_value_y : Binds K A.d_value_y ["machine", "word"] []
  g_value_y : mg "value_y" = some (.ref A.a_value_y)
  f_go_to : Fun K "go_to" "go_to" s_go_to A.a_go_to A.d_go_to
  b_go_to : Binds K A.d_go_to ["machine", "place"] []
  g_go_to : mg "go_to" = some (.ref A.a_go_to)
  f_pass_over_if : Fun K "pass_over_if" "pass_over_if" s_pass_over_if A.a_pass_over_if A.d_pass_over_if
  b_pass_over_if : Binds K A.d_pass_over_if ["machine", "wanted"] []
  g_pass_over_if : mg "pass_over_if" = some (.ref A.a_pass_over_if)
  f_come_back : Fun K "come_back" "come_back" s_come_back A.a_come_back A.d_come_back
  b_come_back : Binds K A.d_come_back ["machine"] []
  g_come_back : mg "come_back" = some (.ref A.a_come_back)
  f_change_screen : Fun K "change_screen" "change_screen" s_change_screen A.a_change_screen A.d_change_screen
  b_change_screen : Binds K A.d_change_screen ["machine", "word"] []
  g_change_screen : mg "change_screen" = some (.ref A.a_change_screen)
  f_do_without_registers : Fun K "do_without_registers" "do_without_registers" s_do_without_registers A.a_do_without_registers A.d_do_without_registers
  b_do_without_registers : Binds K A.d_do_without_registers ["machine", "word"] []
  g_do_without_registers : mg "do_without_registers" = some (.ref A.a_do_without_registers)
  f_jump : Fun K "jump" "jump" s_jump A.a_jump A.d_jump
  b_jump : Binds K A.d_jump ["machine", "word"] []
  g_jump : mg "jump" = some (.ref A.a_jump)
  f_jump_and_come_back : Fun K "jump_and_come_back" "jump_and_come_back" s_jump_and_come_back A.a_jump_and_come_back A.d_jump_and_come_back
  b_jump_and_come_back : Binds K A.d_jump_and_come_back ["machine", "word"] []
  g_jump_and_come_back : mg "jump_and_come_back" = some (.ref A.a_jump_and_come_back)
  f_pass_if_number : Fun K "pass_if_number" "pass_if_number" s_pass_if_number A.a_pass_if_number A.d_pass_if_number
  b_pass_if_number : Binds K A.d_pass_if_number ["machine", "word"] []
  g_pass_if_number : mg "pass_if_number" = some (.ref A.a_pass_if_number)
  f_pass_if_not_number : Fun K "pass_if_not_number" "pass_if_not_number" s_pass_if_not_number A.a_pass_if_not_number A.d_pass_if_not_number
  b_pass_if_not_number : Binds K A.d_pass_if_not_number ["machine", "word"] []
  g_pass_if_not_number : mg "pass_if_not_number" = some (.ref A.a_pass_if_not_number)
  f_pass_if_equal : Fun K "pass_if_equal" "pass_if_equal" s_pass_if_equal A.a_pass_if_equal A.d_pass_if_equal
  b_pass_if_equal : Binds K A.d_pass_if_equal ["machine", "word"] []
  g_pass_if_equal : mg "pass_if_equal" = some (.ref A.a_pass_if_equal)
  f_put_number : Fun K "put_number" "put_number" s_put_number A.a_put_number A.d_put_number
  b_put_number : Binds K A.d_put_number ["machine", "word"] []
  g_put_number : mg "put_number" = some (.ref A.a_put_number)
  f_add_number : Fun K "add_number" "add_number" s_add_number A.a_add_number A.d_add_number
  b_add_number : Binds K A.d_add_number ["machine", "word"] []
  g_add_number : mg "add_number" = some (.ref A.a_add_number)
  f_do_calculation : Fun K "do_calculation" "do_calculation" s_do_calculation A.a_do_calculation A.d_do_calculation
  b_do_calculation : Binds K A.d_do_calculation ["machine", "word"] []
  g_do_calculation : mg "do_calculation" = some (.ref A.a_do_calculation)
  f_pass_if_unequal : Fun K "pass_if_unequal" "pass_if_unequal" s_pass_if_unequal A.a_pass_if_unequal A.d_pass_if_unequal
  b_pass_if_unequal : Binds K A.d_pass_if_unequal ["machine", "word"] []
  g_pass_if_unequal : mg "pass_if_unequal" = some (.ref A.a_pass_if_unequal)
  f_put_i : Fun K "put_i" "put_i" s_put_i A.a_put_i A.d_put_i
  b_put_i : Binds K A.d_put_i ["machine", "word"] []
  g_put_i : mg "put_i" = some (.ref A.a_put_i)
  f_jump_further : Fun K "jump_further" "jump_further" s_jump_further A.a_jump_further A.d_jump_further
  b_jump_further : Binds K A.d_jump_further ["machine", "word"] []
  g_jump_further : mg "jump_further" = some (.ref A.a_jump_further)
  f_take_chance : Fun K "take_chance" "take_chance" s_take_chance A.a_take_chance A.d_take_chance
  b_take_chance : Binds K A.d_take_chance ["machine", "word"] []
  g_take_chance : mg "take_chance" = some (.ref A.a_take_chance)
  f_draw : Fun K "draw" "draw" s_draw A.a_draw A.d_draw
  b_draw : Binds K A.d_draw ["machine", "word"] []
  g_draw : mg "draw" = some (.ref A.a_draw)
  f_narrow_shape : Fun K "narrow_shape" "narrow_shape" s_narrow_shape A.a_narrow_shape A.d_narrow_shape
  b_narrow_shape : Binds K A.d_narrow_shape ["machine", "row_count"] []
  g_narrow_shape : mg "narrow_shape" = some (.ref A.a_narrow_shape)
  f_wide_shape : Fun K "wide_shape" "wide_shape" s_wide_shape A.a_wide_shape A.d_wide_shape
  b_wide_shape : Binds K A.d_wide_shape ["machine"] []
  g_wide_shape : mg "wide_shape" = some (.ref A.a_wide_shape)
  f_word_at : Fun K "word_at" "word_at" s_word_at A.a_word_at A.d_word_at
  b_word_at : Binds K A.d_word_at ["machine", "place"] []
  g_word_at : mg "word_at" = some (.ref A.a_word_at)
  f_pass_by_key : Fun K "pass_by_key" "pass_by_key" s_pass_by_key A.a_pass_by_key A.d_pass_by_key
  b_pass_by_key : Binds K A.d_pass_by_key ["machine", "word"] []
  g_pass_by_key : mg "pass_by_key" = some (.ref A.a_pass_by_key)
  f_do_transfer : Fun K "do_transfer" "do_transfer" s_do_transfer A.a_do_transfer A.d_do_transfer
  b_do_transfer : Binds K A.d_do_transfer ["machine", "word"] []
  g_do_transfer : mg "do_transfer" = some (.ref A.a_do_transfer)
  f_do_instruction : Fun K "do_instruction" "do_instruction" s_do_instruction A.a_do_instruction A.d_do_instruction
  b_do_instruction : Binds K A.d_do_instruction ["machine"] []
  g_do_instruction : mg "do_instruction" = some (.ref A.a_do_instruction)
  f_c8_clear : Fun K "c8_clear" "c8_clear" s_c8_clear A.a_c8_clear A.d_c8_clear
  b_c8_clear : Binds K A.d_c8_clear ["machine", "seed"] []
  g_c8_clear : mg "c8_clear" = some (.ref A.a_c8_clear)
  f_c8_load : Fun K "c8_load" "c8_load" s_c8_load A.a_c8_load A.d_c8_load
  b_c8_load : Binds K A.d_c8_load ["machine", "at", "data"] []
  g_c8_load : mg "c8_load" = some (.ref A.a_c8_load)
  f_c8_look : Fun K "c8_look" "c8_look" s_c8_look A.a_c8_look A.d_c8_look
  b_c8_look : Binds K A.d_c8_look ["machine", "at", "n"] []
  g_c8_look : mg "c8_look" = some (.ref A.a_c8_look)
  f_is_in_memory : Fun K "is_in_memory" "is_in_memory" s_is_in_memory A.a_is_in_memory A.d_is_in_memory
  b_is_in_memory : Binds K A.d_is_in_memory ["at", "n"] []
  g_is_in_memory : mg "is_in_memory" = some (.ref A.a_is_in_memory)
  f_c8_key : Fun K "c8_key" "c8_key" s_c8_key A.a_c8_key A.d_c8_key
  b_c8_key : Binds K A.d_c8_key ["machine", "k", "down"] []
  g_c8_key : mg "c8_key" = some (.ref A.a_c8_key)
  f_c8_tick : Fun K "c8_tick" "c8_tick" s_c8_tick A.a_c8_tick A.d_c8_tick
  b_c8_tick : Binds K A.d_c8_tick ["machine"] []
  g_c8_tick : mg "c8_tick" = some (.ref A.a_c8_tick)
  f_one_less : Fun K "one_less" "one_less" s_one_less A.a_one_less A.d_one_less
  b_one_less : Binds K A.d_one_less ["timer"] []
  g_one_less : mg "one_less" = some (.ref A.a_one_less)
  f_c8_run : Fun K "c8_run" "c8_run" s_c8_run A.a_c8_run A.d_c8_run
  b_c8_run : Binds K A.d_c8_run ["machine", "n"] []
  g_c8_run : mg "c8_run" = some (.ref A.a_c8_run)
  f_c8_why : Fun K "c8_why" "c8_why" s_c8_why A.a_c8_why A.d_c8_why
  b_c8_why : Binds K A.d_c8_why ["machine"] []
  g_c8_why : mg "c8_why" = some (.ref A.a_c8_why)
  f_c8_get : Fun K "c8_get" "c8_get" s_c8_get A.a_c8_get A.d_c8_get
  b_c8_get : Binds K A.d_c8_get ["machine", "which"] []
  g_c8_get : mg "c8_get" = some (.ref A.a_c8_get)
  f_c8_set : Fun K "c8_set" "c8_set" s_c8_set A.a_c8_set A.d_c8_set
  b_c8_set : Binds K A.d_c8_set ["machine", "which", "value"] []
  g_c8_set : mg "c8_set" = some (.ref A.a_c8_set)
  f_c8_screen : Fun K "c8_screen" "c8_screen" s_c8_screen A.a_c8_screen A.d_c8_screen
  b_c8_screen : Binds K A.d_c8_screen ["machine"] []
  g_c8_screen : mg "c8_screen" = some (.ref A.a_c8_screen)
  f_Reader___init__ : Fun K "__init__" "Reader.__init__" s_Reader___init__ A.a_Reader___init__ A.d_Reader___init__
  b_Reader___init__ : Binds K A.d_Reader___init__ ["self", "numbers"] []
  m_Reader___init__ : Meth K A.c_Reader "__init__" A.a_Reader___init__
  f_Reader_has_more : Fun K "has_more" "Reader.has_more" s_Reader_has_more A.a_Reader_has_more A.d_Reader_has_more
  b_Reader_has_more : Binds K A.d_Reader_has_more ["self"] []
  m_Reader_has_more : Meth K A.c_Reader "has_more" A.a_Reader_has_more
  f_Reader_take : Fun K "take" "Reader.take" s_Reader_take A.a_Reader_take A.d_Reader_take
  b_Reader_take : Binds K A.d_Reader_take ["self"] []
  m_Reader_take : Meth K A.c_Reader "take" A.a_Reader_take
  f_Reader_take_row : Fun K "take_row" "Reader.take_row" s_Reader_take_row A.a_Reader_take_row A.d_Reader_take_row
  b_Reader_take_row : Binds K A.d_Reader_take_row ["self"] []
  m_Reader_take_row : Meth K A.c_Reader "take_row" A.a_Reader_take_row
  f_answers : Fun K "answers" "answers" s_answers A.a_answers A.d_answers
  b_answers : Binds K A.d_answers ["calls"] []
  g_answers : mg "answers" = some (.ref A.a_answers)
  f_answer_call : Fun K "answer_call" "answer_call" s_answer_call A.a_answer_call A.d_answer_call
  b_answer_call : Binds K A.d_answer_call ["machine", "reader"] []
  g_answer_call : mg "answer_call" = some (.ref A.a_answer_call)
theorem Txt.z_Machine {K : PySem.W.Frag} {mg : Str → Option Value} {A : Ad} (T : Txt K mg A) : Cls K A.c_Machine ∧ NoAttr K A.c_Machine "aside" ∧ NoAttr K A.c_Machine "chance" ∧ NoAttr K A.c_Machine "has_more" ∧ NoAttr K A.c_Machine "i" ∧ NoAttr K A.c_Machine "large" ∧ NoAttr K A.c_Machine "memory" ∧ NoAttr K A.c_Machine "numbers" ∧ NoAttr K A.c_Machine "pc" ∧ NoAttr K A.c_Machine "place" ∧ NoAttr K A.c_Machine "places" ∧ NoAttr K A.c_Machine "pressed" ∧ NoAttr K A.c_Machine "registers" ∧ NoAttr K A.c_Machine "rows" ∧ NoAttr K A.c_Machine "sound" ∧ NoAttr K A.c_Machine "stopped_by" ∧ NoAttr K A.c_Machine "take" ∧ NoAttr K A.c_Machine "take_row" ∧ NoAttr K A.c_Machine "wait" := ⟨T.cl_Machine, T.x_Machine_aside, T.x_Machine_chance, T.x_Machine_has_more, T.x_Machine_i, T.x_Machine_large, T.x_Machine_memory, T.x_Machine_numbers, T.x_Machine_pc, T.x_Machine_place, T.x_Machine_places, T.x_Machine_pressed, T.x_Machine_registers, T.x_Machine_rows, T.x_Machine_sound, T.x_Machine_stopped_by, T.x_Machine_take, T.x_Machine_take_row, T.x_Machine_wait⟩
theorem Txt.z_Reader {K : PySem.W.Frag} {mg : Str → Option Value} {A : Ad} (T : Txt K mg A) : Cls K A.c_Reader ∧ NoAttr K A.c_Reader "aside" ∧ NoAttr K A.c_Reader "begin" ∧ NoAttr K A.c_Reader "chance" ∧ NoAttr K A.c_Reader "i" ∧ NoAttr K A.c_Reader "large" ∧ NoAttr K A.c_Reader "memory" ∧ NoAttr K A.c_Reader "numbers" ∧ NoAttr K A.c_Reader "pc" ∧ NoAttr K A.c_Reader "place" ∧ NoAttr K A.c_Reader "places" ∧ NoAttr K A.c_Reader "pressed" ∧ NoAttr K A.c_Reader "registers" ∧ NoAttr K A.c_Reader "rows" ∧ NoAttr K A.c_Reader "sound" ∧ NoAttr K A.c_Reader "stopped_by" ∧ NoAttr K A.c_Reader "wait" := ⟨T.cl_Reader, T.x_Reader_aside, T.x_Reader_begin, T.x_Reader_chance, T.x_Reader_i, T.x_Reader_large, T.x_Reader_memory, T.x_Reader_numbers, T.x_Reader_pc, T.x_Reader_place, T.x_Reader_places, T.x_Reader_pressed, T.x_Reader_registers, T.x_Reader_rows, T.x_Reader_sound, T.x_Reader_stopped_by, T.x_Reader_wait⟩
end Sg
end
section
set_option Elab.async false
set_option linter.all false
set_option maxRecDepth 100000
set_option maxHeartbeats 2000000
namespace Sg
open PySem PySem.Spec PyProof.Rows L2
/-! ### bits of whole numbers that are not below 0 -/
theorem xor_and_add : ∀ (a b : Nat), (a ^^^ b) + 2 * (a &&& b) = a + b := by
  intro a
  induction a using Nat.strongRecOn with
  | ind a ih =>
    intro b
    by_cases ha : a = 0
    · subst ha; simp
    · have h := ih (a / 2) (by omega) (b / 2)
      rw [← Nat.xor_div_two, ← Nat.and_div_two] at h
      have p1 : (a ^^^ b) % 2 = (a % 2 + b % 2) % 2 := by
        have e := Nat.testBit_xor a b 0
        simp only [Nat.testBit_zero] at e
        have h1 : a % 2 = 0 ∨ a % 2 = 1 := by omega
        have h2 : b % 2 = 0 ∨ b % 2 = 1 := by omega
        have h3 : (a ^^^ b) % 2 = 0 ∨ (a ^^^ b) % 2 = 1 := by omega
        rcases h1 with h1 | h1 <;> rcases h2 with h2 | h2 <;> rcases h3 with h3 | h3 <;> simp [h1, h2, h3] at e ⊢
      have p2 : (a &&& b) % 2 = (a % 2) * (b % 2) := by
        have e := Nat.testBit_and a b 0
        simp only [Nat.testBit_zero] at e
        have h1 : a % 2 = 0 ∨ a % 2 = 1 := by omega
        have h2 : b % 2 = 0 ∨ b % 2 = 1 := by omega
        have h3 : (a &&& b) % 2 = 0 ∨ (a &&& b) % 2 = 1 := by omega
        rcases h1 with h1 | h1 <;> rcases h2 with h2 | h2 <;> rcases h3 with h3 | h3 <;> simp [h1, h2, h3] at e ⊢
      have h1 : a % 2 = 0 ∨ a % 2 = 1 := by omega
      have h2 : b % 2 = 0 ∨ b % 2 = 1 := by omega
      rcases h1 with h1 | h1 <;> rcases h2 with h2 | h2 <;> rw [h1, h2] at p1 p2 <;> omega
theorem or_and_add (a b : Nat) : (a ||| b) + (a &&& b) = a + b := by
  have e : a ||| b = (a ^^^ b) ^^^ (a &&& b) := by
    apply Nat.eq_of_testBit_eq
    intro k
    simp only [Nat.testBit_or, Nat.testBit_xor, Nat.testBit_and]
    cases a.testBit k <;> cases b.testBit k <;> rfl
  have e2 : (a ^^^ b) &&& (a &&& b) = 0 := by
    apply Nat.eq_of_testBit_eq
    intro k
    simp only [Nat.testBit_xor, Nat.testBit_and, Nat.zero_testBit]
    cases a.testBit k <;> cases b.testBit k <;> rfl
  have h1 := xor_and_add a b
  have h2 := xor_and_add (a ^^^ b) (a &&& b)
  rw [← e, e2] at h2
  omega
theorem bAnd (a b : Nat) : Builtin.bitAnd (a : Int) (b : Int) = ((a &&& b : Nat) : Int) := by
  rw [bitAnd_pp (by omega) (by omega)]
  rfl
theorem bOr (a b : Nat) : Builtin.bitOr (a : Int) (b : Int) = ((a ||| b : Nat) : Int) := by
  rw [bitOr_and, bAnd]
  have := or_and_add a b
  omega
theorem bXor (a b : Nat) : Builtin.bitXor (a : Int) (b : Int) = ((a ^^^ b : Nat) : Int) := by
  rw [bitXor_and, bAnd]
  have := xor_and_add a b
  omega
theorem bMask (a n : Nat) : Builtin.bitAnd (a : Int) ((2 ^ n - 1 : Nat) : Int) = ((a % 2 ^ n : Nat) : Int) := by
  rw [bAnd, Nat.and_two_pow_sub_one_eq_mod]
theorem sShl (a n : Nat) : (a : Int) * 2 ^ (n : Int).toNat = ((a * 2 ^ n : Nat) : Int) := by
  rw [Int.toNat_natCast]
  simp
theorem sShr (a n : Nat) : (a : Int) / 2 ^ (n : Int).toNat = ((a / 2 ^ n : Nat) : Int) := by
  rw [Int.toNat_natCast]
  simp
/-! ### rules that the layer has not -/
section
variable {X : Cx}
/-- x << n, whatever the size (below) -/
def CShl (i j : Int) : Prop := 0 ≤ j ∧ j ≤ 1000000 ∧ i.natAbs < 2 ^ 1000
theorem op_shlB : OpR X (binaryOp .LShift) (rI CShl fun i j => .int (i * 2 ^ j.toNat)) := opI fun i j _ _ _ _ _ hc q => by
  have hb : Builtin.Int.intBits i ≤ 1000 := PySem.intBits_le_iff.mpr hc.2.2
  have h1 := hc.1
  have h2 := hc.2.1
  exact lshift_int hc.1 (by omega) q
def ipC (C : Int → Int → Prop) (f : Int → Int → Int) : TIp := fun x y H Q => ∃ i j, x = .int i ∧ y = .int j ∧ C i j ∧ Q (.int (f i j)) H
theorem ip_xor : PIp X .BitXor (ipI Builtin.bitXor) := by
  intro pins s σ H x y v u Q I r1 r2 h
  obtain ⟨i, j, rfl, rfl, q⟩ := h
  obtain ⟨t, rfl⟩ := r1
  obtain ⟨t', rfl⟩ := r2
  exact ixor_int ⟨.int _, H, I.tok _, ⟨_, rfl⟩, q⟩
theorem ip_or : PIp X .BitOr (ipI Builtin.bitOr) := by
  intro pins s σ H x y v u Q I r1 r2 h
  obtain ⟨i, j, rfl, rfl, q⟩ := h
  obtain ⟨t, rfl⟩ := r1
  obtain ⟨t', rfl⟩ := r2
  exact ior_int ⟨.int _, H, I.tok _, ⟨_, rfl⟩, q⟩
theorem ip_and : PIp X .BitAnd (ipI Builtin.bitAnd) := by
  intro pins s σ H x y v u Q I r1 r2 h
  obtain ⟨i, j, rfl, rfl, q⟩ := h
  obtain ⟨t, rfl⟩ := r1
  obtain ⟨t', rfl⟩ := r2
  exact iand_int ⟨.int _, H, I.tok _, ⟨_, rfl⟩, q⟩
theorem ip_mod : PIp X .Mod (ipC (fun _ j => 0 < j) fun i j => i % j) := by
  intro pins s σ H x y v u Q I r1 r2 h
  obtain ⟨i, j, rfl, rfl, hc, q⟩ := h
  obtain ⟨t, rfl⟩ := r1
  obtain ⟨t', rfl⟩ := r2
  refine imod_int (by omega) ?_
  rw [Int.fmod_eq_emod_of_nonneg _ (by omega)]
  exact ⟨.int _, H, I.tok _, ⟨_, rfl⟩, q⟩
theorem ip_shr : PIp X .RShift (ipC (fun _ j => 0 ≤ j) fun i j => i / 2 ^ j.toNat) := by
  intro pins s σ H x y v u Q I r1 r2 h
  obtain ⟨i, j, rfl, rfl, hc, q⟩ := h
  obtain ⟨t, rfl⟩ := r1
  obtain ⟨t', rfl⟩ := r2
  refine irshift_int hc ?_
  rw [Int.fdiv_eq_ediv_of_nonneg _ (Int.le_of_lt (Int.pow_pos (by decide)))]
  exact ⟨.int _, H, I.tok _, ⟨_, rfl⟩, q⟩
theorem ip_shl : PIp X .LShift (ipC CShl fun i j => i * 2 ^ j.toNat) := by
  intro pins s σ H x y v u Q I r1 r2 h
  obtain ⟨i, j, rfl, rfl, hc, q⟩ := h
  obtain ⟨t, rfl⟩ := r1
  obtain ⟨t', rfl⟩ := r2
  have hb : Builtin.Int.intBits i ≤ 1000 := PySem.intBits_le_iff.mpr hc.2.2
  have h1 := hc.1
  have h2 := hc.2.1
  exact ilshift_int hc.1 (by omega) ⟨.int _, H, I.tok _, ⟨_, rfl⟩, q⟩
theorem ip_mul : PIp X .Mult (ipC CMul fun i j => i * j) := by
  intro pins s σ H x y v u Q I r1 r2 h
  obtain ⟨i, j, rfl, rfl, hc, q⟩ := h
  obtain ⟨t, rfl⟩ := r1
  obtain ⟨t', rfl⟩ := r2
  exact imul_int ⟨.int _, H, I.tok _, ⟨_, rfl⟩, q⟩ hc.ok
theorem in_xor : InOp X .BitXor (ipI Builtin.bitXor) := ip_xor
theorem in_or : InOp X .BitOr (ipI Builtin.bitOr) := ip_or
theorem in_and : InOp X .BitAnd (ipI Builtin.bitAnd) := ip_and
theorem in_mod : InOp X .Mod (ipC (fun _ j => 0 < j) fun i j => i % j) := ip_mod
theorem in_shr : InOp X .RShift (ipC (fun _ j => 0 ≤ j) fun i j => i / 2 ^ j.toNat) := ip_shr
theorem in_shl : InOp X .LShift (ipC CShl fun i j => i * 2 ^ j.toNat) := ip_shl
theorem in_mul : InOp X .Mult (ipC CMul fun i j => i * j) := ip_mul
/-- xs[i], by values -/
def rGetL (K : PySem.W.Frag) : V → V → Hp → VK → Prop := fun x y H Q => ∃ p xs i v, x = .ref p ∧ y = .int i ∧ SqL K H p xs ∧ 0 ≤ i ∧ xs[i.toNat]? = some v ∧ Q v H
theorem get_list : PGet X (rGetL X.K) := by
  intro pins s σ H o i ov iv Q I ro ri h
  obtain ⟨p, xs, k, z, rfl, rfl, hq, h0, he, q⟩ := h
  cases ro
  obtain ⟨t, rfl⟩ := ri
  obtain ⟨its, r, pl, hz⟩ := I.list hq
  obtain ⟨w, ew, rw'⟩ := r.get he
  have hl := r.length
  have hn := line63
  have hlt : k.toNat < xs.length := (List.getElem?_eq_some_iff.mp he).1
  exact wpAny_getItem_list pl.isList h0 (by omega) (by simpa using ew) ⟨z, H, I, rw', q⟩
end
end Sg
end
section
set_option Elab.async false
set_option linter.all false
set_option maxRecDepth 100000
set_option maxHeartbeats 2000000
namespace Sg
open PySem PySem.Spec PyProof.Rows L2
/-! ### the reader -/
def rf (c : Addr) (k : Int) : List (Str × V) := [("numbers", .ref c), ("place", .int k)]
theorem lk_numbers (c : Addr) (k : Int) : (rf c k).lookup ("numbers" : Str) = some (.ref c) := by rfl
theorem lk_place (c : Addr) (k : Int) : (rf c k).lookup ("place" : Str) = some (.int k) := by rfl
theorem lk_take (c : Addr) (k : Int) : (rf c k).lookup ("take" : Str) = none := by rfl
theorem lk_take_row (c : Addr) (k : Int) : (rf c k).lookup ("take_row" : Str) = none := by rfl
theorem pt_place (c : Addr) (k z : Int) : putF "place" (.int z) (rf c k) = rf c z := by rfl
theorem rf_len (c : Addr) (k : Int) : ((rf c k).length < 1000) = True := by simp [rf]
/-- where the machine's lists lie -/
structure MA where
  mem : Addr
  regs : Addr
  aside : Addr
  places : Addr
  pressed : Addr
  rows : Addr
theorem truV_bl (K : PySem.W.Frag) (b : Bool) (H : Hp) (k : Bool) : TruV K (.bl b) H k = (k = b) := rfl
theorem truV_int (K : PySem.W.Frag) (i : Int) (H : Hp) (k : Bool) : TruV K (.int i) H k = (k = (i != 0)) := rfl
/-- a slice of ints from a place in the list to another -/
theorem cutV_ints (xs : List Int) {a n : Nat} (h : a + n ≤ xs.length) : cutV (xs.map V.int) (some (a : Int)) (some ((a : Int) + n)) = ((xs.drop a).take n).map V.int := by
  unfold cutV
  have e1 : HT.sIx (xs.map V.int).length 0 (some (a : Int)) = a := by rw [HT.sIx_nat, List.length_map]; omega
  have e2 : HT.sIx (xs.map V.int).length (xs.map V.int).length (some ((a : Int) + n)) = a + n := by
    rw [show ((a : Int) + n) = ((a + n : Nat) : Int) by omega, HT.sIx_nat, List.length_map]; omega
  rw [e1, e2, Nat.add_sub_cancel_left, List.map_take, List.map_drop]
theorem for_enum {K : PySem.W.Frag} {a : Addr} {xs : List V} {g : TG} {tb : TS} {D : Ends} {σ : L2.St} {H : Hp} (Pv : Nat → L2.St → Hp → Prop) (h0 : Pv 0 σ H) (hl : ∀ i σ H, i ≤ xs.length → Pv i σ H → SqL K H a xs)
    (hs : ∀ i x σ H T, xs[i]? = some x → Pv i σ H → H T = none → g (.ref T) σ (upd H T (.tup [.int (i : Nat), x])) fun σ2 H2 => tb { D with nx := Pv (i + 1), ct := Pv (i + 1), bk := D.nx } σ2 H2) (hd : ∀ σ H, Pv xs.length σ H → D.nx σ H) :
    ∃ W : Nat → Nat → L2.St → Hp → Prop, (∃ m, W 0 m σ H) ∧ ∀ i m σ H, W i m σ H →
      ((Ite K a).stop i H ∧ D.nx σ H) ∨ ((Ite K a).go i H ∧ ∃ N : L2.St → Hp → Prop, (∀ σ' H', N σ' H' → ∃ m', m' < m ∧ W (i + 1) m' σ' H') ∧ ∀ x H', (Ite K a).yld i H x H' → g x σ H' fun σ2 H2 => tb { D with nx := N, ct := N, bk := D.nx } σ2 H2) := by
  refine ⟨fun i m σ H => m = xs.length - i ∧ i ≤ xs.length ∧ Pv i σ H, ⟨xs.length, by simp, Nat.zero_le _, h0⟩, ?_⟩
  rintro i m σ H ⟨rfl, hi, p⟩
  have q := hl i σ H hi p
  by_cases hlt : i < xs.length
  · refine .inr ⟨⟨xs, xs[i], q, by simp [hlt]⟩, Pv (i + 1), fun σ' H' p' => ⟨xs.length - (i + 1), by omega, rfl, hlt, p'⟩, fun x H' y => ?_⟩
    obtain ⟨T, z, e1, e2, e3, y⟩ := y
    subst e1
    subst e3
    exact hs i z σ H T (y xs q) p e2
  · have e : i = xs.length := by omega
    subst e
    exact .inl ⟨⟨xs, q, Nat.le_refl _⟩, hd σ H p⟩
def mf (a : MA) (m : MS) : List (Str × V) := [("memory", .ref a.mem), ("registers", .ref a.regs), ("aside", .ref a.aside), ("i", .int m.i), ("pc", .int m.pc), ("places", .ref a.places), ("wait", .int m.wait), ("sound", .int m.sound), ("pressed", .ref a.pressed), ("chance", .int m.chance), ("large", .int m.large), ("rows", .ref a.rows), ("stopped_by", .int m.why)]
theorem lk_mem (a : MA) (m : MS) : (mf a m).lookup ("memory" : Str) = some (.ref a.mem) := by rfl
theorem pt_mem (a : MA) (m : MS) (z : Addr) : putF "memory" (.ref z) (mf a m) = mf { a with mem := z } m := by rfl
theorem lk_regs (a : MA) (m : MS) : (mf a m).lookup ("registers" : Str) = some (.ref a.regs) := by rfl
theorem pt_regs (a : MA) (m : MS) (z : Addr) : putF "registers" (.ref z) (mf a m) = mf { a with regs := z } m := by rfl
theorem lk_aside (a : MA) (m : MS) : (mf a m).lookup ("aside" : Str) = some (.ref a.aside) := by rfl
theorem pt_aside (a : MA) (m : MS) (z : Addr) : putF "aside" (.ref z) (mf a m) = mf { a with aside := z } m := by rfl
theorem lk_i (a : MA) (m : MS) : (mf a m).lookup ("i" : Str) = some (.int m.i) := by rfl
theorem pt_i (a : MA) (m : MS) (z : Int) : putF "i" (.int z) (mf a m) = mf a { m with i := z } := by rfl
theorem lk_pc (a : MA) (m : MS) : (mf a m).lookup ("pc" : Str) = some (.int m.pc) := by rfl
theorem pt_pc (a : MA) (m : MS) (z : Int) : putF "pc" (.int z) (mf a m) = mf a { m with pc := z } := by rfl
theorem lk_places (a : MA) (m : MS) : (mf a m).lookup ("places" : Str) = some (.ref a.places) := by rfl
theorem pt_places (a : MA) (m : MS) (z : Addr) : putF "places" (.ref z) (mf a m) = mf { a with places := z } m := by rfl
theorem lk_wait (a : MA) (m : MS) : (mf a m).lookup ("wait" : Str) = some (.int m.wait) := by rfl
theorem pt_wait (a : MA) (m : MS) (z : Int) : putF "wait" (.int z) (mf a m) = mf a { m with wait := z } := by rfl
theorem lk_sound (a : MA) (m : MS) : (mf a m).lookup ("sound" : Str) = some (.int m.sound) := by rfl
theorem pt_sound (a : MA) (m : MS) (z : Int) : putF "sound" (.int z) (mf a m) = mf a { m with sound := z } := by rfl
theorem lk_pressed (a : MA) (m : MS) : (mf a m).lookup ("pressed" : Str) = some (.ref a.pressed) := by rfl
theorem pt_pressed (a : MA) (m : MS) (z : Addr) : putF "pressed" (.ref z) (mf a m) = mf { a with pressed := z } m := by rfl
theorem lk_chance (a : MA) (m : MS) : (mf a m).lookup ("chance" : Str) = some (.int m.chance) := by rfl
theorem pt_chance (a : MA) (m : MS) (z : Int) : putF "chance" (.int z) (mf a m) = mf a { m with chance := z } := by rfl
theorem lk_large (a : MA) (m : MS) : (mf a m).lookup ("large" : Str) = some (.int m.large) := by rfl
theorem pt_large (a : MA) (m : MS) (z : Int) : putF "large" (.int z) (mf a m) = mf a { m with large := z } := by rfl
theorem lk_rows (a : MA) (m : MS) : (mf a m).lookup ("rows" : Str) = some (.ref a.rows) := by rfl
theorem pt_rows (a : MA) (m : MS) (z : Addr) : putF "rows" (.ref z) (mf a m) = mf { a with rows := z } m := by rfl
theorem lk_why (a : MA) (m : MS) : (mf a m).lookup ("stopped_by" : Str) = some (.int m.why) := by rfl
theorem pt_why (a : MA) (m : MS) (z : Int) : putF "stopped_by" (.int z) (mf a m) = mf a { m with why := z } := by rfl
theorem mf_len (a : MA) (m : MS) : ((mf a m).length < 1000) = True := by simp [mf]
def MA.all (a : MA) : List Addr := [a.mem, a.regs, a.aside, a.places, a.pressed, a.rows]
/-- the machine at p, of the class at C -/
structure MAt (C : Addr) (H : Hp) (p dx : Addr) (a : MA) (m : MS) : Prop where
  ob : H p = some (.ins C dx (mf a m))
  mem : H a.mem = some (.lst (m.mem.map V.int))
  regs : H a.regs = some (.lst (m.regs.map V.int))
  aside : H a.aside = some (.lst (m.aside.map V.int))
  places : H a.places = some (.lst (m.places.map V.int))
  pressed : H a.pressed = some (.lst (m.pressed.map V.int))
  rows : H a.rows = some (.lst (m.rows.map V.int))
  nd : a.all.Nodup
/-- all else is as it was -/
def Frm (H H' : Hp) (p : Addr) (a : MA) : Prop := ∀ b o, H b = some o → b ≠ p → b ∉ a.all → H' b = some o
theorem Frm.refl (H : Hp) (p : Addr) (a : MA) : Frm H H p a := fun _ _ h _ _ => h
theorem Frm.trans {H H1 H2 : Hp} {p : Addr} {a : MA} (h : Frm H H1 p a) (h' : Frm H1 H2 p a) : Frm H H2 p a := fun b o e n1 n2 => h' b o (h b o e n1 n2) n1 n2
section
variable {C p dx : Addr} {H : Hp} {a : MA} {m : MS}
theorem MAt.pne (M : MAt C H p dx a m) : p ∉ a.all := by
  intro h
  simp only [MA.all, List.mem_cons, List.not_mem_nil, or_false] at h
  rcases h with h | h | h | h | h | h
  · exact ne_of M.ob M.mem (by intro q; cases q) h
  · exact ne_of M.ob M.regs (by intro q; cases q) h
  · exact ne_of M.ob M.aside (by intro q; cases q) h
  · exact ne_of M.ob M.places (by intro q; cases q) h
  · exact ne_of M.ob M.pressed (by intro q; cases q) h
  · exact ne_of M.ob M.rows (by intro q; cases q) h
/-- its numbers are changed -/
theorem MAt.put (M : MAt C H p dx a m) (m' : MS) (h : m'.mem = m.mem ∧ m'.regs = m.regs ∧ m'.aside = m.aside ∧ m'.places = m.places ∧ m'.pressed = m.pressed ∧ m'.rows = m.rows) : MAt C (upd H p (.ins C dx (mf a m'))) p dx a m' := by
  obtain ⟨h1, h2, h3, h4, h5, h6⟩ := h
  have n := M.pne
  simp only [MA.all, List.mem_cons, List.not_mem_nil, or_false, not_or] at n
  obtain ⟨n1, n2, n3, n4, n5, n6⟩ := n
  exact ⟨upd_same, by rw [upd_ne (Ne.symm n1), h1]; exact M.mem, by rw [upd_ne (Ne.symm n2), h2]; exact M.regs, by rw [upd_ne (Ne.symm n3), h3]; exact M.aside, by rw [upd_ne (Ne.symm n4), h4]; exact M.places, by rw [upd_ne (Ne.symm n5), h5]; exact M.pressed, by rw [upd_ne (Ne.symm n6), h6]; exact M.rows, M.nd⟩
theorem MAt.new (M : MAt C H p dx a m) {l : Addr} {o : HO} (hl : H l = none) : MAt C (upd H l o) p dx a m :=
  ⟨by rw [upd_ne (ne_of_none M.ob hl)]; exact M.ob, by rw [upd_ne (ne_of_none M.mem hl)]; exact M.mem, by rw [upd_ne (ne_of_none M.regs hl)]; exact M.regs, by rw [upd_ne (ne_of_none M.aside hl)]; exact M.aside, by rw [upd_ne (ne_of_none M.places hl)]; exact M.places, by rw [upd_ne (ne_of_none M.pressed hl)]; exact M.pressed, by rw [upd_ne (ne_of_none M.rows hl)]; exact M.rows, M.nd⟩
theorem Frm.new {H : Hp} {l : Addr} {o : HO} (hl : H l = none) : Frm H (upd H l o) p a := fun b u e _ _ => by rw [upd_ne (ne_of_none e hl)]; exact e
theorem Frm.put (H : Hp) (o : HO) : Frm H (upd H p o) p a := fun b u e n _ => by rw [upd_ne n]; exact e
theorem MAt.nes (M : MAt C H p dx a m) : ¬ a.mem = p ∧ ¬ a.regs = p ∧ ¬ a.aside = p ∧ ¬ a.places = p ∧ ¬ a.pressed = p ∧ ¬ a.rows = p := by
  have n := M.pne
  simp only [MA.all, List.mem_cons, List.not_mem_nil, or_false, not_or] at n
  exact ⟨Ne.symm n.1, Ne.symm n.2.1, Ne.symm n.2.2.1, Ne.symm n.2.2.2.1, Ne.symm n.2.2.2.2.1, Ne.symm n.2.2.2.2.2⟩
theorem MAt.setMem (M : MAt C H p dx a m) (xs : List Int) : MAt C (upd H a.mem (.lst (xs.map V.int))) p dx a { m with mem := xs } := by
  have n := M.nes
  have d := M.nd
  simp only [MA.all, List.nodup_cons, List.mem_cons, List.not_mem_nil, or_false, not_or] at d
  exact ⟨by rw [upd_ne (Ne.symm n.1)]; exact M.ob, upd_same, by rw [upd_ne (Ne.symm d.1.1)]; exact M.regs, by rw [upd_ne (Ne.symm d.1.2.1)]; exact M.aside, by rw [upd_ne (Ne.symm d.1.2.2.1)]; exact M.places, by rw [upd_ne (Ne.symm d.1.2.2.2.1)]; exact M.pressed, by rw [upd_ne (Ne.symm d.1.2.2.2.2)]; exact M.rows, M.nd⟩
theorem MAt.setPressed (M : MAt C H p dx a m) (xs : List Int) : MAt C (upd H a.pressed (.lst (xs.map V.int))) p dx a { m with pressed := xs } := by
  have n := M.nes
  have d := M.nd
  simp only [MA.all, List.nodup_cons, List.mem_cons, List.not_mem_nil, or_false, not_or] at d
  exact ⟨by rw [upd_ne (Ne.symm n.2.2.2.2.1)]; exact M.ob, by rw [upd_ne d.1.2.2.2.1]; exact M.mem, by rw [upd_ne d.2.1.2.2.1]; exact M.regs, by rw [upd_ne d.2.2.1.2.1]; exact M.aside, by rw [upd_ne d.2.2.2.1.1]; exact M.places, upd_same, by rw [upd_ne (Ne.symm d.2.2.2.2.1)]; exact M.rows, M.nd⟩
theorem MAt.setRegs (M : MAt C H p dx a m) (xs : List Int) : MAt C (upd H a.regs (.lst (xs.map V.int))) p dx a { m with regs := xs } := by
  have n := M.nes
  have d := M.nd
  simp only [MA.all, List.nodup_cons, List.mem_cons, List.not_mem_nil, or_false, not_or] at d
  exact ⟨by rw [upd_ne (Ne.symm n.2.1)]; exact M.ob, by rw [upd_ne d.1.1]; exact M.mem, upd_same, by rw [upd_ne (Ne.symm d.2.1.1)]; exact M.aside, by rw [upd_ne (Ne.symm d.2.1.2.1)]; exact M.places, by rw [upd_ne (Ne.symm d.2.1.2.2.1)]; exact M.pressed, by rw [upd_ne (Ne.symm d.2.1.2.2.2)]; exact M.rows, M.nd⟩
theorem MAt.setAside (M : MAt C H p dx a m) (xs : List Int) : MAt C (upd H a.aside (.lst (xs.map V.int))) p dx a { m with aside := xs } := by
  have n := M.nes
  have d := M.nd
  simp only [MA.all, List.nodup_cons, List.mem_cons, List.not_mem_nil, or_false, not_or] at d
  exact ⟨by rw [upd_ne (Ne.symm n.2.2.1)]; exact M.ob, by rw [upd_ne d.1.2.1]; exact M.mem, by rw [upd_ne d.2.1.1]; exact M.regs, upd_same, by rw [upd_ne (Ne.symm d.2.2.1.1)]; exact M.places, by rw [upd_ne (Ne.symm d.2.2.1.2.1)]; exact M.pressed, by rw [upd_ne (Ne.symm d.2.2.1.2.2)]; exact M.rows, M.nd⟩
theorem MAt.setPlaces (M : MAt C H p dx a m) (xs : List Int) : MAt C (upd H a.places (.lst (xs.map V.int))) p dx a { m with places := xs } := by
  have n := M.nes
  have d := M.nd
  simp only [MA.all, List.nodup_cons, List.mem_cons, List.not_mem_nil, or_false, not_or] at d
  exact ⟨by rw [upd_ne (Ne.symm n.2.2.2.1)]; exact M.ob, by rw [upd_ne d.1.2.2.1]; exact M.mem, by rw [upd_ne d.2.1.2.1]; exact M.regs, by rw [upd_ne d.2.2.1.1]; exact M.aside, upd_same, by rw [upd_ne (Ne.symm d.2.2.2.1.1)]; exact M.pressed, by rw [upd_ne (Ne.symm d.2.2.2.1.2)]; exact M.rows, M.nd⟩
theorem MAt.setRows (M : MAt C H p dx a m) (xs : List Int) : MAt C (upd H a.rows (.lst (xs.map V.int))) p dx a { m with rows := xs } := by
  have n := M.nes
  have d := M.nd
  simp only [MA.all, List.nodup_cons, List.mem_cons, List.not_mem_nil, or_false, not_or] at d
  exact ⟨by rw [upd_ne (Ne.symm n.2.2.2.2.2)]; exact M.ob, by rw [upd_ne d.1.2.2.2.2]; exact M.mem, by rw [upd_ne d.2.1.2.2.2]; exact M.regs, by rw [upd_ne d.2.2.1.2.2]; exact M.aside, by rw [upd_ne d.2.2.2.1.2]; exact M.places, by rw [upd_ne d.2.2.2.2.1]; exact M.pressed, upd_same, M.nd⟩
/-- all else is kept: the machine too -/
theorem MAt.same {H' : Hp} (M : MAt C H p dx a m) (S : Same H H') : MAt C H' p dx a m := ⟨S _ _ M.ob, S _ _ M.mem, S _ _ M.regs, S _ _ M.aside, S _ _ M.places, S _ _ M.pressed, S _ _ M.rows, M.nd⟩
theorem MAt.there (M : MAt C H p dx a m) {b : Addr} (hb : b ∈ a.all) : H b ≠ none := by
  simp only [MA.all, List.mem_cons, List.not_mem_nil, or_false] at hb
  rcases hb with e | e | e | e | e | e <;> rw [e]
  · rw [M.mem]; simp
  · rw [M.regs]; simp
  · rw [M.aside]; simp
  · rw [M.places]; simp
  · rw [M.pressed]; simp
  · rw [M.rows]; simp
/-- the rows are a new list, at l -/
theorem MAt.newRows {l : Addr} (M : MAt C H p dx a m) (m' : MS) (xs : List Int) (hl : H l = Option.some (.lst (xs.map V.int))) (nl : l ∉ a.all) (h : m'.mem = m.mem ∧ m'.regs = m.regs ∧ m'.aside = m.aside ∧ m'.places = m.places ∧ m'.pressed = m.pressed ∧ m'.rows = xs) :
    MAt C (upd H p (.ins C dx (mf { a with rows := l } m'))) p dx { a with rows := l } m' := by
  obtain ⟨h1, h2, h3, h4, h5, h6⟩ := h
  have n := M.nes
  have d := M.nd
  have lp : l ≠ p := ne_of hl M.ob (by intro q; cases q)
  simp only [MA.all, List.mem_cons, List.not_mem_nil, or_false, not_or] at nl
  refine ⟨upd_same, by rw [upd_ne n.1, h1]; exact M.mem, by rw [upd_ne n.2.1, h2]; exact M.regs, by rw [upd_ne n.2.2.1, h3]; exact M.aside, by rw [upd_ne n.2.2.2.1, h4]; exact M.places, by rw [upd_ne n.2.2.2.2.1, h5]; exact M.pressed, by rw [upd_ne lp, h6]; exact hl, ?_⟩
  simp only [MA.all, List.nodup_cons, List.mem_cons, List.not_mem_nil, or_false, not_or] at d ⊢
  exact ⟨⟨d.1.1, d.1.2.1, d.1.2.2.1, d.1.2.2.2.1, Ne.symm nl.1⟩, ⟨d.2.1.1, d.2.1.2.1, d.2.1.2.2.1, Ne.symm nl.2.1⟩, ⟨d.2.2.1.1, d.2.2.1.2.1, Ne.symm nl.2.2.1⟩, ⟨d.2.2.2.1.1, Ne.symm nl.2.2.2.1⟩, Ne.symm nl.2.2.2.2.1, d.2.2.2.2.2⟩
theorem Frm.set {b : Addr} (o : HO) (hb : b ∈ a.all) : Frm H (upd H b o) p a := fun c u e _ n => by rw [upd_ne (fun z => n (by rw [z]; exact hb))]; exact e
/-- the answer of a call: the machine is m', the numbers ans are told in a list, all else is as it was -/
def Done (C : Addr) (H : Hp) (p dx : Addr) (a : MA) (Q : VK) (m' : MS) (ans : List Int) : Prop :=
  ∀ (H' : Hp) (a' : MA) (l : Addr), MAt C H' p dx a' m' → Frm H H' p a → (∀ b ∈ a'.all, b ∈ a.all ∨ H b = none) → H l = none → H' l = some (.lst (ans.map V.int)) → Q (.ref l) H'
theorem MAt.none_not {C : Addr} {H : Hp} {p dx l : Addr} {a : MA} {m : MS} (M : MAt C H p dx a m) (hl : H l = none) : l ≠ p ∧ l ∉ a.all := by
  refine ⟨fun z => (by rw [z, M.ob] at hl; cases hl), fun hb => ?_⟩
  simp only [MA.all, List.mem_cons, List.not_mem_nil, or_false] at hb
  rcases hb with e | e | e | e | e | e <;> rw [e] at hl
  · rw [M.mem] at hl; cases hl
  · rw [M.regs] at hl; cases hl
  · rw [M.aside] at hl; cases hl
  · rw [M.places] at hl; cases hl
  · rw [M.pressed] at hl; cases hl
  · rw [M.rows] at hl; cases hl
theorem Frm.free {C : Addr} {H H1 : Hp} {p dx l : Addr} {a : MA} {m : MS} (F : Frm H H1 p a) (M : MAt C H1 p dx a m) (hl : H1 l = none) : H l = none := by
  cases e : H l with
  | none => rfl
  | some o =>
    have n := M.none_not hl
    rw [F l o e n.1 n.2] at hl
    cases hl
theorem Done.tell {C : Addr} {H H1 : Hp} {p dx : Addr} {a : MA} {Q : VK} {m' : MS} {ans : List Int} (h : Done C H p dx a Q m' ans) (M : MAt C H1 p dx a m') (F : Frm H H1 p a) (l : Addr) (hl : H1 l = none) : Q (.ref l) (upd H1 l (.lst (ans.map V.int))) :=
  h _ a l (M.new hl) (F.trans (Frm.new hl)) (fun _ h => .inl h) (F.free M hl) upd_same
theorem Done.tell1 {C : Addr} {H H1 : Hp} {p dx : Addr} {a : MA} {Q : VK} {m' : MS} {x : Int} (h : Done C H p dx a Q m' [x]) (M : MAt C H1 p dx a m') (F : Frm H H1 p a) : 1 ≤ sizeLine ∧ ∀ l, H1 l = none → Q (.ref l) (upd H1 l (.lst [V.int x])) :=
  ⟨by decide, h.tell M F⟩
/-- from one machine to another: all else is as it was -/
structure Go (C p dx : Addr) (H : Hp) (a : MA) (H' : Hp) (a' : MA) (m' : MS) : Prop where
  at_ : MAt C H' p dx a' m'
  fr : Frm H H' p a
  nw : ∀ b ∈ a'.all, b ∈ a.all ∨ H b = none
  al : ∀ b, H' b = none → H b = none
theorem Go.same {C p dx : Addr} {H H' : Hp} {a : MA} {m' : MS} (M : MAt C H' p dx a m') (F : Frm H H' p a) : Go C p dx H a H' a m' := ⟨M, F, fun _ h => .inl h, fun b hb => F.free M hb⟩
theorem Go.refl {C p dx : Addr} {H : Hp} {a : MA} {m : MS} (M : MAt C H p dx a m) : Go C p dx H a H a m := .same M (Frm.refl _ _ _)
theorem Go.trans {C p dx : Addr} {H H1 H2 : Hp} {a a1 a2 : MA} {m1 m2 : MS} (g : Go C p dx H a H1 a1 m1) (g' : Go C p dx H1 a1 H2 a2 m2) : Go C p dx H a H2 a2 m2 := by
  refine ⟨g'.at_, fun b o e n1 n2 => g'.fr b o (g.fr b o e n1 n2) n1 fun hb => ?_, fun b hb => ?_, fun b hb => g.al b (g'.al b hb)⟩
  · rcases g.nw b hb with q | q
    · exact n2 q
    · rw [q] at e; cases e
  · rcases g'.nw b hb with q | q
    · exact g.nw b q
    · exact .inr (g.al b q)
/-- what is wanted of a def that turns the machine into the specification's s', and gives back v -/
def Nxt (C p dx : Addr) (H : Hp) (a : MA) (m : MS) (s' : Sz36.St) (Q : VK) (v : V) : Prop := ∀ H' a' m', Go C p dx H a H' a' m' → R m' s' → m'.why = m.why → Q v H'
theorem Nxt.on {C p dx : Addr} {H H1 : Hp} {a a1 : MA} {m m1 : MS} {s' : Sz36.St} {Q : VK} {v : V} (h : Nxt C p dx H a m s' Q v) (g : Go C p dx H a H1 a1 m1) (hw : m1.why = m.why) : Nxt C p dx H1 a1 m1 s' Q v := fun H' a' m' g' r e => h H' a' m' (g.trans g') r (e.trans hw)
/-- .. or is stopped, and leaves the machine as it was -/
def Out (C p dx : Addr) (H : Hp) (a : MA) (m : MS) (r : Sz36.May) (Q : VK) : Prop := match r with
  | .ok s' => Nxt C p dx H a m s' Q (.int 0)
  | .error e => ∀ H', e ≠ 0 → Go C p dx H a H' a m → Q (.int (e : Nat)) H'
theorem Out.ok {C p dx : Addr} {H : Hp} {a : MA} {m : MS} {s' : Sz36.St} {r : Sz36.May} {Q : VK} (h : Out C p dx H a m r Q) (e : r = .ok s') : Nxt C p dx H a m s' Q (.int 0) := by subst e; exact h
theorem Out.stop {C p dx : Addr} {H : Hp} {a : MA} {m : MS} {n : Nat} {r : Sz36.May} {Q : VK} (h : Out C p dx H a m r Q) (e : r = .error n) : ∀ H', n ≠ 0 → Go C p dx H a H' a m → Q (.int (n : Nat)) H' := by subst e; exact h
end
end Sg
end
section
set_option Elab.async false
set_option linter.all false
set_option maxRecDepth 100000
set_option maxHeartbeats 2000000
namespace Sg
open PySem PySem.Spec PyProof.Rows L2
theorem upd_apply (H : Hp) (a b : Addr) (o : HO) : upd H a o b = if b = a then some o else H b := rfl
theorem upd_upd (H : Hp) (a : Addr) (o u : HO) : upd (upd H a o) a u = upd H a u := by
  funext b; simp only [upd_apply]; split <;> rfl
theorem start_def (N : List Str) (vs : List V) : L2.start N vs = vs.map some ++ List.replicate (N.length - vs.length) none := rfl
section
variable {C p dx : Addr} {H : Hp} {a : MA} {m : MS}
theorem MAt.facts (M : MAt C H p dx a m) : H p = some (.ins C dx (mf a m)) ∧ H a.mem = some (.lst (m.mem.map V.int)) ∧ H a.regs = some (.lst (m.regs.map V.int)) ∧ H a.aside = some (.lst (m.aside.map V.int)) ∧ H a.places = some (.lst (m.places.map V.int)) ∧ H a.pressed = some (.lst (m.pressed.map V.int)) ∧ H a.rows = some (.lst (m.rows.map V.int)) := ⟨M.ob, M.mem, M.regs, M.aside, M.places, M.pressed, M.rows⟩
end
theorem cxOf_K (CX : CXT) (P : Program) (w : World) (K : PySem.W.Frag) (mg : Str → Option Value) (base : Heap) (N : List Str) (qual : Str) (scope : Scope) (f : Addr) (cd : Value) (A : Around) (outer : List Env) (s : Shared) (H : Hp) (E : XK) : (cxOf CX P w K mg base N qual scope f cd A outer s H E).K = K := rfl
theorem scal_ii (i j : Int) : scal (.int i) (.int j) = true := rfl
theorem scal_bb (i j : Bool) : scal (.bl i) (.bl j) = true := rfl
set_option hygiene false
local macro_rules | `(tactic| walk_at "rd") => `(tactic| simp only [tRet, tRetN, tIf, tIfS, tTest, tOp, tUn, tVar, tC, tSeq, tAsg, gName, tDrop, tNext, tFld, sFld, sFldAug, tCall, tMeth, tCB, tCons, tNil, tLst, tTup, tAnd, tOr, tNot, tAndV, tOrV, tNotV, tSl, tPart, tNoPart, rU, rI, rI0, rEq, rNe, rAdd, rSub, rIxL, rSetL, gSub, start_def, scal_ii, scal_bb, cxOf_K, List.map_cons, List.map_nil, List.cons_append, List.nil_append, List.append_nil, List.length_cons, List.length_nil, Nat.reduceAdd, Nat.reduceSub, List.replicate_succ, List.replicate_zero, List.getElem?_cons_zero, List.getElem?_cons_succ, List.set_cons_zero, List.set_cons_succ, Option.some.injEq, V.int.injEq, V.ref.injEq, V.bl.injEq, HO.ins.injEq, HO.lst.injEq, exists_eq_left, exists_eq_left', exists_and_left, and_assoc, true_and, and_true, decide_eq_true_eq, mf_len, lk_numbers, lk_place, lk_take, pt_place, rf_len, lk_mem, lk_regs, lk_aside, lk_i, lk_pc, lk_places, lk_wait, lk_sound, lk_pressed, lk_chance, lk_large, lk_rows, lk_why, pt_why, pt_mem, pt_rows, tIxK, tCallV, pt_i, pt_pc, pt_wait, pt_sound, pt_chance, pt_large, upd_same, upd_upd, List.cons.injEq, ite_true, ite_false, eq_self, Int.reduceEq, Int.reduceNeg, decide_true, decide_false, reduceCtorEq, if_true, if_false, Bool.not_eq_true, Bool.not_true, Bool.not_false, Bool.true_eq_false, Bool.false_eq_true, ← List.map_set, List.length_map, ipI, ipC, tAug, tAugS, rGetL, rAppend, rExtend, rPop, rCat, rRep, gCons, gNil,  rSlL, truV_bl, truV_int, fx, tx])
local macro_rules | `(tactic| walk_at "nx") => `(tactic| try simp only [tSeq, tAsg, tIfS, tTest, tOp, rEq, rNe, tVar, tC, tNext, gName, tRet, tCall, tCons, tNil, scal_ii, start_def, List.map_cons, List.map_nil, List.cons_append, List.nil_append, List.append_nil, List.length_cons, List.length_nil, Nat.reduceAdd, Nat.reduceSub, List.replicate_succ, List.replicate_zero, List.getElem?_cons_zero, List.getElem?_cons_succ, List.set_cons_zero, List.set_cons_succ, Option.some.injEq, V.ref.injEq, V.int.injEq, V.bl.injEq, exists_eq_left', exists_eq_left, exists_and_left, true_and, and_true, and_assoc, ite_true, ite_false, eq_self, Int.reduceEq, Int.reduceNeg, decide_true, decide_false, decide_eq_true_eq, reduceCtorEq, Bool.false_eq_true, if_true, if_false, ↓reduceIte, cxOf_K])
local macro_rules | `(tactic| walk_at "me") => `(tactic| simp only [tMeth, tVar, tNil, List.getElem?_cons_zero, List.getElem?_cons_succ, Option.some.injEq, V.ref.injEq, exists_eq_left', exists_eq_left, fx, HO.ins.injEq, exists_and_left, true_and, and_assoc, lk_take, lk_take_row, List.append_nil, List.nil_append])
section
variable {P : Program} {w : World} {K : PySem.W.Frag} {mg : Str → Option Value} {base : Heap} {A : Ad}
def oneLess (n : Int) : Int := if 0 < n then n - 1 else 0
def sp_one_less : Sp := fun vs H Q _ => ∃ n : Int, vs = [.int n] ∧ Q (.int (oneLess n)) H
theorem ok_one_less (T : Txt K mg A) : FnOk P w K mg base CX0 1 A.a_one_less A.d_one_less ["timer"] sp_one_less := by
  refine T.f_one_less.ok sc_one_less (fun vs H Q E h => ?_) (fun cdv A' outer s H vs Q E hr h => ?_)
  · obtain ⟨n, rfl, _⟩ := h; rfl
  · obtain ⟨n, rfl, h⟩ := h
    refine ⟨_, (pss_one (ps_ret (pe_ifExp (pt_cmpR op_gt (pv 0) pe_int (nomark _)) (pe_op op_sub (pv 0) pe_int) pe_int))), ?_⟩
    have fx := trivial
    have tx := trivial
    walk_at "rd"
    unfold oneLess at h
    split <;> simp_all
end
end Sg
end
section
set_option Elab.async false
set_option linter.all false
set_option maxRecDepth 100000
set_option maxHeartbeats 2000000
set_option hygiene false
namespace Sg
open PySem PySem.Spec PyProof.Rows L2
local macro_rules | `(tactic| walk_at "rd") => `(tactic| simp only [tRet, tRetN, tIf, tIfS, tTest, tOp, tUn, tVar, tC, tSeq, tAsg, gName, tDrop, tNext, tFld, sFld, sFldAug, tCall, tMeth, tCB, tCons, tNil, tLst, tTup, tAnd, tOr, tNot, tAndV, tOrV, tNotV, tSl, tPart, tNoPart, rU, rI, rI0, rEq, rNe, rAdd, rSub, rIxL, rSetL, gSub, start_def, scal_ii, scal_bb, cxOf_K, List.map_cons, List.map_nil, List.cons_append, List.nil_append, List.append_nil, List.length_cons, List.length_nil, Nat.reduceAdd, Nat.reduceSub, List.replicate_succ, List.replicate_zero, List.getElem?_cons_zero, List.getElem?_cons_succ, List.set_cons_zero, List.set_cons_succ, Option.some.injEq, V.int.injEq, V.ref.injEq, V.bl.injEq, HO.ins.injEq, HO.lst.injEq, exists_eq_left, exists_eq_left', exists_and_left, and_assoc, true_and, and_true, decide_eq_true_eq, mf_len, lk_numbers, lk_place, lk_take, pt_place, rf_len, lk_mem, lk_regs, lk_aside, lk_i, lk_pc, lk_places, lk_wait, lk_sound, lk_pressed, lk_chance, lk_large, lk_rows, lk_why, pt_why, pt_mem, pt_rows, tIxK, tCallV, pt_i, pt_pc, pt_wait, pt_sound, pt_chance, pt_large, upd_same, upd_upd, List.cons.injEq, ite_true, ite_false, eq_self, Int.reduceEq, Int.reduceNeg, decide_true, decide_false, reduceCtorEq, if_true, if_false, Bool.not_eq_true, Bool.not_true, Bool.not_false, Bool.true_eq_false, Bool.false_eq_true, ← List.map_set, List.length_map, ipI, ipC, tAug, tAugS, rGetL, rAppend, rExtend, rPop, rCat, rRep, gCons, gNil,  rSlL, truV_bl, truV_int, fx, tx])
local macro_rules | `(tactic| walk_at "nx") => `(tactic| try simp only [tSeq, tAsg, tIfS, tTest, tOp, rEq, rNe, tVar, tC, tNext, gName, tRet, tCall, tCons, tNil, scal_ii, start_def, List.map_cons, List.map_nil, List.cons_append, List.nil_append, List.append_nil, List.length_cons, List.length_nil, Nat.reduceAdd, Nat.reduceSub, List.replicate_succ, List.replicate_zero, List.getElem?_cons_zero, List.getElem?_cons_succ, List.set_cons_zero, List.set_cons_succ, Option.some.injEq, V.ref.injEq, V.int.injEq, V.bl.injEq, exists_eq_left', exists_eq_left, exists_and_left, true_and, and_true, and_assoc, ite_true, ite_false, eq_self, Int.reduceEq, Int.reduceNeg, decide_true, decide_false, decide_eq_true_eq, reduceCtorEq, Bool.false_eq_true, if_true, if_false, ↓reduceIte, cxOf_K])
local macro_rules | `(tactic| walk_at "me") => `(tactic| simp only [tMeth, tVar, tNil, List.getElem?_cons_zero, List.getElem?_cons_succ, Option.some.injEq, V.ref.injEq, exists_eq_left', exists_eq_left, fx, HO.ins.injEq, exists_and_left, true_and, and_assoc, lk_take, lk_take_row, List.append_nil, List.nil_append])
section
variable {P : Program} {w : World} {K : PySem.W.Frag} {mg : Str → Option Value} {base : Heap} {A : Ad}
def sp_tick (C : Addr) : Sp := fun vs H Q _ => ∃ p dx a m, vs = [.ref p] ∧ MAt C H p dx a m ∧ Done C H p dx a Q { m with wait := oneLess m.wait, sound := oneLess m.sound } [if m.sound = 0 then 0 else 1]
theorem ok_c8_tick (T : Txt K mg A) : FnOk P w K mg base CX0 2 A.a_c8_tick A.d_c8_tick ["machine"] (sp_tick A.c_Machine) := by
  have G_one_less : FnOk P w K mg base CX0 _ _ _ _ _ := ok_one_less T
  refine T.f_c8_tick.ok sc_c8_tick (fun vs H Q E h => ?_) (fun cdv A' outer s H vs Q E hr h => ?_)
  · obtain ⟨p, dx, a, m, rfl, _⟩ := h; rfl
  · obtain ⟨p, dx, a, m, rfl, M, h⟩ := h
    refine ⟨_, (pss_cons (ps_set (i := 1) sc_c8_tick.nd rfl (Or.inl rfl) (pe_ifExp (pt_cmpR op_eq (pe_fld (pv 0) rfl) pe_int (nomark _)) pe_int pe_int)) (pss_cons (ps_fld (pv 0) (pe_call G_one_less (hr.mono (by decide)) rfl T.g_one_less T.f_one_less.kp T.b_one_less .nil pass0 (pa_cons (pe_fld (pv 0) rfl) pa_nil)) rfl) (pss_cons (ps_fld (pv 0) (pe_call G_one_less (hr.mono (by decide)) rfl T.g_one_less T.f_one_less.kp T.b_one_less .nil pass0 (pa_cons (pe_fld (pv 0) rfl) pa_nil)) rfl) (pss_one (ps_ret (pe_lst (pa_cons (pv 1) pa_nil))))))), ?_⟩
    have fx := M.facts
    have tx := T.z_Machine
    unfold sp_one_less
    walk_at "rd"
    split
    · rename_i e
      rw [if_pos e] at h
      exact h.tell1 (MAt.put M _ (by exact ⟨rfl, rfl, rfl, rfl, rfl, rfl⟩)) (Frm.put H _)
    · rename_i e
      rw [if_neg e] at h
      exact h.tell1 (MAt.put M _ (by exact ⟨rfl, rfl, rfl, rfl, rfl, rfl⟩)) (Frm.put H _)
def sp_key (C : Addr) : Sp := fun vs H Q _ => ∃ p dx a m k d, vs = [.ref p, .int k, .int d] ∧ MAt C H p dx a m ∧ m.pressed.length = 16 ∧
  (if k < 0 ∨ 15 < k ∨ d < 0 ∨ 1 < d then Done C H p dx a Q m [-1] else Done C H p dx a Q { m with pressed := m.pressed.set k.toNat d } [0])
theorem ixN_nat {n : Nat} {k : Int} (h0 : 0 ≤ k) (h1 : k < n) : ixN n k = some k.toNat := by unfold ixN; rw [if_pos h0, if_pos h1]
theorem ok_c8_key (T : Txt K mg A) : FnOk P w K mg base CX0 1 A.a_c8_key A.d_c8_key ["machine", "k", "down"] (sp_key A.c_Machine) := by
  refine T.f_c8_key.ok sc_c8_key (fun vs H Q E h => ?_) (fun cdv A' outer s H vs Q E hr h => ?_)
  · obtain ⟨p, dx, a, m, k, d, rfl, _⟩ := h; rfl
  · obtain ⟨p, dx, a, m, k, d, rfl, M, hl16, h⟩ := h
    refine ⟨_, (pss_cons (ps_if (PW.pt (pw_or (pt_cmpR op_lt (pv 1) pe_int (nomark _)) (pw_or (pt_cmpR op_ge (pv 1) (pe_gint rfl T.g_KEY_COUNT) (nomark _)) (pw_or (pt_cmpR op_lt (pv 2) pe_int (nomark _)) (pw_or1 (pt_cmpR op_gt (pv 2) pe_int (nomark _))))))) (pss_one (ps_ret (pe_lst (pa_cons (pe_gint rfl T.g_REFUSED) pa_nil)))) pss_nil) (pss_cons (ps_asg (pv 2) (pg_sub (pe_fld (pv 0) rfl) (pv 1) set_list)) (pss_one (ps_ret (pe_lst (pa_cons (pe_gint rfl T.g_DONE) pa_nil)))))), ?_⟩
    have fx := M.facts
    have tx := T.z_Machine
    walk_at "rd"
    have no : (k < 0 ∨ 15 < k ∨ d < 0 ∨ 1 < d) → 1 ≤ sizeLine ∧ ∀ l, H l = none → Q (.ref l) (upd H l (.lst [V.int (-1)])) := fun e => by
      rw [if_pos e] at h
      exact h.tell1 M (Frm.refl _ _ _)
    refine ite2 (fun e => no (.inl e)) fun e1 => ite2 (fun e => no (.inr (.inl (by omega)))) fun e2 => ite2 (fun e => no (.inr (.inr (.inl e)))) fun e3 => ite2 (fun e => no (.inr (.inr (.inr e)))) fun e4 => ?_
    rw [if_neg (by omega)] at h
    refine ⟨k.toNat, ixN_nat (by omega) (by omega), ?_⟩
    exact h.tell1 (M.setPressed _) (Frm.set _ (by simp [MA.all]))
def sp_is_in_memory : Sp := fun vs H Q _ => ∃ a n : Int, vs = [.int a, .int n] ∧ Q (.bl (decide (0 ≤ n ∧ 0 ≤ a ∧ a + n ≤ 4096))) H
theorem ok_is_in_memory (T : Txt K mg A) : FnOk P w K mg base CX0 1 A.a_is_in_memory A.d_is_in_memory ["at", "n"] sp_is_in_memory := by
  refine T.f_is_in_memory.ok sc_is_in_memory (fun vs H Q E h => ?_) (fun cdv A' outer s H vs Q E hr h => ?_)
  · obtain ⟨a, n, rfl, _⟩ := h; rfl
  · obtain ⟨a, n, rfl, h⟩ := h
    refine ⟨_, (pss_one (ps_ret (pe_and (pe_cmpR op_ge (pv 1) pe_int (nomark _)) (pe_and (pe_cmpR op_ge (pv 0) pe_int (nomark _)) (pe_one (pe_cmpR op_le (pe_op op_add (pv 0) (pv 1)) (pe_gint rfl T.g_MEMORY_SIZE) (nomark _))))))), ?_⟩
    have fx := trivial
    have tx := trivial
    walk_at "rd"
    by_cases h1 : 0 ≤ n <;> by_cases h2 : 0 ≤ a <;> by_cases h3 : a + n ≤ 4096 <;> simp [h1, h2, h3] at h ⊢ <;> exact h
def sp_look (C : Addr) : Sp := fun vs H Q _ => ∃ p dx a m at' n, vs = [.ref p, .int at', .int n] ∧ MAt C H p dx a m ∧ m.mem.length = 4096 ∧
  (if n < 0 ∨ at' < 0 ∨ 4096 < at' + n then Done C H p dx a Q m [-1] else Done C H p dx a Q m (0 :: (m.mem.drop at'.toNat).take n.toNat))
theorem ok_c8_look (T : Txt K mg A) : FnOk P w K mg base CX0 2 A.a_c8_look A.d_c8_look ["machine", "at", "n"] (sp_look A.c_Machine) := by
  have G_is_in_memory : FnOk P w K mg base CX0 _ _ _ _ _ := ok_is_in_memory T
  refine T.f_c8_look.ok sc_c8_look (fun vs H Q E h => ?_) (fun cdv A' outer s H vs Q E hr h => ?_)
  · obtain ⟨p, dx, a, m, at', n, rfl, _⟩ := h; rfl
  · obtain ⟨p, dx, a, m, at', n, rfl, M, hl, h⟩ := h
    refine ⟨_, (pss_cons (ps_if (pt_not (pt_truth (pe_call G_is_in_memory (hr.mono (by decide)) rfl T.g_is_in_memory T.f_is_in_memory.kp T.b_is_in_memory .nil pass0 (pa_cons (pv 1) (pa_cons (pv 2) pa_nil))) (fun _ => rfl))) (pss_one (ps_ret (pe_lst (pa_cons (pe_gint rfl T.g_REFUSED) pa_nil)))) pss_nil) (pss_one (ps_ret (pe_op op_cat (pe_lst (pa_cons (pe_gint rfl T.g_DONE) pa_nil)) (pe_slice sl_list (pe_fld (pv 0) rfl) (po_some (pv 1)) (po_some (pe_op op_add (pv 1) (pv 2)))))))), ?_⟩
    have fx := M.facts
    have tx := T.z_Machine
    unfold sp_is_in_memory
    walk_at "rd"
    refine ite2 (fun e => ?_) fun e => ⟨by decide, fun l1 h1 => ?_⟩
    · have e2 : n < 0 ∨ at' < 0 ∨ 4096 < at' + n := by simp at e; omega
      rw [if_pos e2] at h
      exact h.tell1 M (Frm.refl _ _ _)
    · have e2 : 0 ≤ n ∧ 0 ≤ at' ∧ at' + n ≤ 4096 := by simpa using e
      rw [if_neg (by omega)] at h
      have M1 := M.new (o := .lst [V.int 0]) h1
      have fx := M1.facts
      walk_at "rd"
      refine ⟨_, SqL.of M1.mem, fun l2 h2 => ?_⟩
      obtain ⟨n', rfl⟩ := Int.eq_ofNat_of_zero_le e2.1
      obtain ⟨at2, rfl⟩ := Int.eq_ofNat_of_zero_le e2.2.1
      have hle : at2 + n' ≤ m.mem.length := by rw [hl]; omega
      have e3 : cutV (m.mem.map V.int) (some (at2 : Int)) (some ((at2 : Int) + n')) = ((m.mem.drop at2).take n').map V.int := cutV_ints _ hle
      rw [e3]
      have ne : l1 ≠ l2 := ne_of_none upd_same h2
      refine ⟨[V.int 0], by rw [upd_ne ne, upd_same], ?_, fun l3 h3 => ?_⟩
      · simp only [List.length_map, List.length_take, List.length_drop, hl, List.length_cons, List.length_nil]
        show _ ≤ 16777216
        omega
      · have M2 := M1.new (o := .lst (((m.mem.drop at2).take n').map V.int)) h2
        exact h.tell M2 ((Frm.new h1).trans (Frm.new h2)) l3 h3
def sp_load (C : Addr) (K : PySem.W.Frag) : Sp := fun vs H Q _ => ∃ p dx a m at' d bs, vs = [.ref p, .int at', .ref d] ∧ MAt C H p dx a m ∧ m.mem.length = 4096 ∧ H d = some (.lst (List.map V.int bs)) ∧ d ∉ a.all ∧ bs.length ≤ 4096 ∧
  (if at' < 0 ∨ 4096 < at' + bs.length then Done C H p dx a Q m [-1] else Done C H p dx a Q { m with mem := stored m.mem at'.toNat bs } [0])
theorem ok_c8_load (T : Txt K mg A) : FnOk P w K mg base CX0 2 A.a_c8_load A.d_c8_load ["machine", "at", "data"] (sp_load A.c_Machine K) := by
  have G_is_in_memory : FnOk P w K mg base CX0 _ _ _ _ _ := ok_is_in_memory T
  refine T.f_c8_load.ok sc_c8_load (fun vs H Q E h => ?_) (fun cdv A' outer s H vs Q E hr h => ?_)
  · obtain ⟨p, dx, a, m, at', d, bs, rfl, _⟩ := h; rfl
  · obtain ⟨p, dx, a, m, at', d, bs, rfl, M, hl, hd, hda, hbs, h⟩ := h
    refine ⟨_, (pss_cons (ps_if (pt_not (pt_truth (pe_call G_is_in_memory (hr.mono (by decide)) rfl T.g_is_in_memory T.f_is_in_memory.kp T.b_is_in_memory .nil pass0 (pa_cons (pv 1) (pa_cons (pe_callB call_len_seq rfl T.n_len PySem.boot_len (pa_cons (pv 2) pa_nil)) pa_nil))) (fun _ => rfl))) (pss_one (ps_ret (pe_lst (pa_cons (pe_gint rfl T.g_REFUSED) pa_nil)))) pss_nil) (pss_cons (ps_for PassesOwn.never rfl (pi_enum rfl T.n_enumerate (pa_cons (pv 2) pa_nil)) (pg_tup rfl (pgs_cons (pg_name (i := 3) sc_c8_load.nd rfl (Or.inl rfl)) (pgs_cons (pg_name (i := 4) sc_c8_load.nd rfl (Or.inl rfl)) pgs_nil))) (pss_one (ps_asg (pv 4) (pg_sub (pe_fld (pv 0) rfl) (pe_op op_add (pv 1) (pv 3)) set_list)))) (pss_one (ps_ret (pe_lst (pa_cons (pe_gint rfl T.g_DONE) pa_nil)))))), ?_⟩
    have fx := M.facts
    have tx := T.z_Machine
    unfold sp_is_in_memory
    walk_at "rd"
    refine ⟨_, .inl (SqL.of hd), ite2 (fun e => ?_) fun e => ?_⟩
    · have e2 : at' < 0 ∨ 4096 < at' + bs.length := by simp at e; omega
      rw [if_pos e2] at h
      exact h.tell1 M (Frm.refl _ _ _)
    · have e2 : 0 ≤ at' ∧ at' + bs.length ≤ 4096 := by simp at e; omega
      rw [if_neg (by omega)] at h
      obtain ⟨at2, rfl⟩ := Int.eq_ofNat_of_zero_le e2.1
      refine ⟨_, rfl, d, _, rfl, SqL.of hd, for_enum (K := K) (a := d) (xs := bs.map V.int) (fun i σ H' => ∃ v3 v4 : Option V, σ = [some (.ref p), some (.int at2), some (.ref d), v3, v4] ∧ MAt A.c_Machine H' p dx a { m with mem := stored m.mem at2 (bs.take i) } ∧ Frm H H' p a) ⟨none, none, rfl, M, Frm.refl _ _ _⟩ (fun i σ H' _ ⟨_, _, _, M', F'⟩ => SqL.of (F' d _ hd (ne_of hd M.ob (by intro q; cases q)) hda)) ?_ ?_⟩
      · rintro i x σ H' T' hi ⟨v3, v4, rfl, M', F'⟩ hT
        obtain ⟨z, hz, rfl⟩ : ∃ z, bs[i]? = some z ∧ x = V.int z := by
          rw [List.getElem?_map] at hi
          cases e : bs[i]? with
          | none => rw [e] at hi; cases hi
          | some z => rw [e] at hi; exact ⟨z, rfl, (Option.some.inj hi).symm⟩
        have M1 := M'.new (o := .tup [.int (i : Nat), .int z]) hT
        have fx := M1.facts
        refine ⟨T', _, rfl, SqT.of upd_same, rfl, ?_⟩
        walk_at "rd"
        have hib : i < bs.length := (List.getElem?_eq_some_iff.mp hz).1
        have e5 : stored m.mem at2 (bs.take (i + 1)) = (stored m.mem at2 (bs.take i)).set (at2 + i) z := by
          rw [take_snoc hz, stored_snoc, List.length_take, Nat.min_eq_left (by omega)]
        refine ⟨at2 + i, ?_, ?_, ?_⟩
        · have e6 := ixN_nat (n := (stored m.mem at2 (bs.take i)).length) (k := (at2 : Int) + i) (by omega) (by rw [stored_len, hl]; omega)
          rw [e6]
          congr 1
        · rw [e5]
          exact M1.setMem _
        · exact (F'.trans (Frm.new hT)).trans (Frm.set _ (by simp [MA.all]))
      · rintro σ H' ⟨v3, v4, rfl, M', F'⟩
        rw [List.length_map, List.take_length] at M'
        walk_at "rd"
        exact h.tell1 M' F'
end
end Sg
end
section
set_option Elab.async false
set_option linter.all false
set_option maxRecDepth 100000
set_option maxHeartbeats 2000000
set_option hygiene false
namespace Sg
open PySem PySem.Spec PyProof.Rows L2
local macro_rules | `(tactic| walk_at "rd") => `(tactic| simp only [tRet, tRetN, tIf, tIfS, tTest, tOp, tUn, tVar, tC, tSeq, tAsg, gName, tDrop, tNext, tFld, sFld, sFldAug, tCall, tMeth, tCB, tCons, tNil, tLst, tTup, tAnd, tOr, tNot, tAndV, tOrV, tNotV, tSl, tPart, tNoPart, rU, rI, rI0, rEq, rNe, rAdd, rSub, rIxL, rSetL, gSub, start_def, scal_ii, scal_bb, cxOf_K, List.map_cons, List.map_nil, List.cons_append, List.nil_append, List.append_nil, List.length_cons, List.length_nil, Nat.reduceAdd, Nat.reduceSub, List.replicate_succ, List.replicate_zero, List.getElem?_cons_zero, List.getElem?_cons_succ, List.set_cons_zero, List.set_cons_succ, Option.some.injEq, V.int.injEq, V.ref.injEq, V.bl.injEq, HO.ins.injEq, HO.lst.injEq, exists_eq_left, exists_eq_left', exists_and_left, and_assoc, true_and, and_true, decide_eq_true_eq, mf_len, lk_numbers, lk_place, lk_take, pt_place, rf_len, lk_mem, lk_regs, lk_aside, lk_i, lk_pc, lk_places, lk_wait, lk_sound, lk_pressed, lk_chance, lk_large, lk_rows, lk_why, pt_why, pt_mem, pt_rows, tIxK, tCallV, pt_i, pt_pc, pt_wait, pt_sound, pt_chance, pt_large, upd_same, upd_upd, List.cons.injEq, ite_true, ite_false, eq_self, Int.reduceEq, Int.reduceNeg, decide_true, decide_false, reduceCtorEq, if_true, if_false, Bool.not_eq_true, Bool.not_true, Bool.not_false, Bool.true_eq_false, Bool.false_eq_true, ← List.map_set, List.length_map, ipI, ipC, tAug, tAugS, rGetL, rAppend, rExtend, rPop, rCat, rRep, gCons, gNil,  rSlL, truV_bl, truV_int, fx, tx])
local macro_rules | `(tactic| walk_at "nx") => `(tactic| try simp only [tSeq, tAsg, tIfS, tTest, tOp, rEq, rNe, tVar, tC, tNext, gName, tRet, tCall, tCons, tNil, scal_ii, start_def, List.map_cons, List.map_nil, List.cons_append, List.nil_append, List.append_nil, List.length_cons, List.length_nil, Nat.reduceAdd, Nat.reduceSub, List.replicate_succ, List.replicate_zero, List.getElem?_cons_zero, List.getElem?_cons_succ, List.set_cons_zero, List.set_cons_succ, Option.some.injEq, V.ref.injEq, V.int.injEq, V.bl.injEq, exists_eq_left', exists_eq_left, exists_and_left, true_and, and_true, and_assoc, ite_true, ite_false, eq_self, Int.reduceEq, Int.reduceNeg, decide_true, decide_false, decide_eq_true_eq, reduceCtorEq, Bool.false_eq_true, if_true, if_false, ↓reduceIte, cxOf_K])
local macro_rules | `(tactic| walk_at "me") => `(tactic| simp only [tMeth, tVar, tNil, List.getElem?_cons_zero, List.getElem?_cons_succ, Option.some.injEq, V.ref.injEq, exists_eq_left', exists_eq_left, fx, HO.ins.injEq, exists_and_left, true_and, and_assoc, lk_take, lk_take_row, List.append_nil, List.nil_append])
section
variable {P : Program} {w : World} {K : PySem.W.Frag} {mg : Str → Option Value} {base : Heap} {A : Ad}
/-- the reader at r stands at place k of the list at c -/
def RAt (C : Addr) (H : Hp) (r dr c : Addr) (k : Nat) : Prop := H r = some (.ins C dr (rf c k))
/-- only the object at r has changed -/
def But (H H' : Hp) (r : Addr) : Prop := ∀ b o, H b = some o → b ≠ r → H' b = some o
theorem But.seq {H H' : Hp} {r C dr c : Addr} {fs : List (Str × V)} {xs : List V} (b : But H H' r) (hr : H r = some (.ins C dr fs)) (h : SqL K H c xs) : SqL K H' c xs := by
  rcases h with (h | ⟨o, h⟩) | h
  · exact .inl (.inl (b _ _ h (ne_of h hr (by intro q; cases q))))
  · exact .inl (.inr ⟨o, b _ _ h (ne_of h hr (by intro q; cases q))⟩)
  · exact .inr h
theorem But.trans {H H1 H2 : Hp} {r : Addr} (a : But H H1 r) (b : But H1 H2 r) : But H H2 r := fun c o e n => b c o (a c o e n) n
theorem But.free {H H1 : Hp} {r l : Addr} {o : HO} (a : But H H1 r) (hr : H1 r = some o) (h : H1 l = none) : H l = none := by
  cases e : H l with
  | none => rfl
  | some u =>
    have n : l ≠ r := fun z => by rw [z, hr] at h; cases h
    rw [a l u e n] at h
    cases h
theorem atI_ints {ns : List Int} {k : Nat} {z : Int} (h : ns[k]? = some z) : atI (ns.map V.int) (k : Int) = some (V.int z) := atI_nat (by rw [List.getElem?_map, h]; rfl)
def sp_take (C : Addr) (K : PySem.W.Frag) : Sp := fun vs H Q _ => ∃ r dr c k ns z, vs = [.ref r] ∧ RAt C H r dr c k ∧ SqL K H c (List.map V.int ns) ∧ ns[k]? = some z ∧ ∀ H', RAt C H' r dr c (k + 1) → But H H' r → Q (.int z) H'
theorem ok_Reader_take (T : Txt K mg A) : FnOk P w K mg base CX0 1 A.a_Reader_take A.d_Reader_take ["self"] (sp_take A.c_Reader K) := by
  refine T.f_Reader_take.ok sc_Reader_take (fun vs H Q E h => ?_) (fun cdv A' outer s H vs Q E hr h => ?_)
  · obtain ⟨r, dr, c, k, ns, z, rfl, _⟩ := h; rfl
  · obtain ⟨r, dr, c, k, ns, z, rfl, M, hS, hz, h⟩ := h
    refine ⟨_, (pss_cons (ps_set (i := 1) sc_Reader_take.nd rfl (Or.inl rfl) (pe_ix ix_list (pe_fld (pv 0) rfl) (pe_fld (pv 0) rfl) (fun _ _ => rfl))) (pss_cons (ps_fldaug (pv 0) pe_int in_add) (pss_one (ps_ret (pv 1))))), ?_⟩
    have fx : H r = some (.ins A.c_Reader dr (rf c k)) := M
    have tx := T.z_Reader
    walk_at "rd"
    refine ⟨_, hS, _, atI_ints hz, ?_⟩
    exact h _ upd_same fun b o e hb => by rw [upd_ne hb]; exact e
def sp_has_more (C : Addr) (K : PySem.W.Frag) : Sp := fun vs H Q _ => ∃ r dr c k ns, vs = [.ref r] ∧ RAt C H r dr c k ∧ SqL K H c (List.map V.int ns) ∧ Q (.bl (decide (k < ns.length))) H
theorem ok_Reader_has_more (T : Txt K mg A) : FnOk P w K mg base CX0 1 A.a_Reader_has_more A.d_Reader_has_more ["self"] (sp_has_more A.c_Reader K) := by
  refine T.f_Reader_has_more.ok sc_Reader_has_more (fun vs H Q E h => ?_) (fun cdv A' outer s H vs Q E hr h => ?_)
  · obtain ⟨r, dr, c, k, ns, rfl, _⟩ := h; rfl
  · obtain ⟨r, dr, c, k, ns, rfl, M, hS, h⟩ := h
    refine ⟨_, (pss_one (ps_ret (pe_cmpR op_lt (pe_fld (pv 0) rfl) (pe_callB call_len_seq rfl T.n_len PySem.boot_len (pa_cons (pe_fld (pv 0) rfl) pa_nil)) (nomark _)))), ?_⟩
    have fx : H r = some (.ins A.c_Reader dr (rf c k)) := M
    have tx := T.z_Reader
    walk_at "rd"
    refine ⟨_, .inl hS, ?_⟩
    rw [List.length_map]
    have e : decide ((k : Int) < (ns.length : Nat)) = decide (k < ns.length) := by
      by_cases e : k < ns.length
      · rw [decide_eq_true e, decide_eq_true (by omega)]
      · rw [decide_eq_false e, decide_eq_false (by omega)]
    rw [e]
    exact h
def sp_take_row (C : Addr) (K : PySem.W.Frag) : Sp := fun vs H Q _ => ∃ r dr c k ns bs t, vs = [.ref r] ∧ RAt C H r dr c k ∧ SqL K H c (List.map V.int ns) ∧ ns.drop k = ((List.length bs : Nat) : Int) :: (bs ++ t) ∧
  ∀ H' l, RAt C H' r dr c (k + 1 + bs.length) → But H H' r → H l = none → H' l = some (.lst (bs.map V.int)) → Q (.ref l) H'
theorem ok_Reader_take_row (T : Txt K mg A) : FnOk P w K mg base CX0 2 A.a_Reader_take_row A.d_Reader_take_row ["self"] (sp_take_row A.c_Reader K) := by
  have G_Reader_take : FnOk P w K mg base CX0 _ _ _ _ _ := ok_Reader_take T
  refine T.f_Reader_take_row.ok sc_Reader_take_row (fun vs H Q E h => ?_) (fun cdv A' outer s H vs Q E hr h => ?_)
  · obtain ⟨r, dr, c, k, ns, bs, t, rfl, _⟩ := h; rfl
  · obtain ⟨r, dr, c, k, ns, bs, t, rfl, M, hS, hd, h⟩ := h
    refine ⟨_, (pss_cons (ps_set (i := 1) sc_Reader_take_row.nd rfl (Or.inl rfl) (pe_meth0 (pv 0) T.cl_Reader T.m_Reader_take G_Reader_take (hr.mono (by decide)) T.b_Reader_take .nil pass0)) (pss_cons (ps_set (i := 2) sc_Reader_take_row.nd rfl (Or.inl rfl) (pe_slice sl_list (pe_fld (pv 0) rfl) (po_some (pe_fld (pv 0) rfl)) (po_some (pe_op op_add (pe_fld (pv 0) rfl) (pv 1))))) (pss_cons (ps_fldaug (pv 0) (pv 1) in_add) (pss_one (ps_ret (pv 2)))))), ?_⟩
    have fx : H r = some (.ins A.c_Reader dr (rf c k)) := M
    have tx := T.z_Reader
    walk_at "rd"
    have hz : ns[k]? = some ((bs.length : Nat) : Int) := by
      have e := List.getElem?_drop (xs := ns) (i := k) (j := 0)
      rw [hd] at e
      simpa using e.symm
    refine ⟨r, dr, c, k, ns, _, rfl, M, hS, hz, fun H1 M1 B1 => ?_⟩
    have fx : H1 r = some (.ins A.c_Reader dr (rf c ((k + 1 : Nat) : Int))) := M1
    walk_at "rd"
    refine ⟨_, B1.seq M hS, fun l hl => ?_⟩
    have hk1 : ns.drop (k + 1) = bs ++ t := by rw [← List.drop_drop, hd]; rfl
    have hlen : k + 1 + bs.length ≤ ns.length := by
      have e := congrArg List.length hd
      simp only [List.length_drop, List.length_cons, List.length_append] at e
      omega
    have e3 : cutV (ns.map V.int) (some ((k + 1 : Nat) : Int)) (some (((k + 1 : Nat) : Int) + bs.length)) = bs.map V.int := by
      rw [cutV_ints _ hlen, hk1, List.take_left]
    rw [e3]
    have nr : r ≠ l := ne_of_none M1 hl
    have fx2 : upd H1 l (.lst (bs.map V.int)) r = some (.ins A.c_Reader dr (rf c ((k + 1 : Nat) : Int))) := by rw [upd_ne nr]; exact M1
    have fx := fx2
    walk_at "rd"
    refine h _ l ?_ ?_ (B1.free M1 hl) ?_
    · unfold RAt
      rw [upd_same]
      simp
    · exact fun b o e hb => by rw [upd_ne hb, upd_ne (ne_of_none (B1 b o e hb) hl)]; exact B1 b o e hb
    · rw [upd_ne (Ne.symm nr), upd_same]
def sp_Reader_init (C : Addr) : Sp := fun vs H Q _ => ∃ r dr c, vs = [.ref r, .ref c] ∧ H r = some (.ins C dr []) ∧ ∀ H', RAt C H' r dr c 0 → But H H' r → Q .non H'
theorem ok_Reader___init__ (T : Txt K mg A) : FnOk P w K mg base CX0 1 A.a_Reader___init__ A.d_Reader___init__ ["self", "numbers"] (sp_Reader_init A.c_Reader) := by
  refine T.f_Reader___init__.ok sc_Reader___init__ (fun vs H Q E h => ?_) (fun cdv A' outer s H vs Q E hr h => ?_)
  · obtain ⟨r, dr, c, rfl, _⟩ := h; rfl
  · obtain ⟨r, dr, c, rfl, M, h⟩ := h
    refine ⟨_, (pss_cons (ps_fld (pv 0) (pv 1) rfl) (pss_one (ps_fld (pv 0) pe_int rfl))), ?_⟩
    have fx := M
    have tx := T.z_Reader
    walk_at "rd"
    refine ⟨by decide, (by show 1 < 1000; decide), ?_⟩
    exact h _ upd_same fun b o e hb => by rw [upd_ne hb]; exact e
/-! ### the machine made -/
section
variable {D : Ends} {σ : L2.St} {H : Hp} {p C dx : Addr} {fs : List (Str × V)} {f : Str}
/-- self.f = a number -/
theorem st_int {z : Int} {te : TE} (σ0 : σ[0]? = some (some (.ref p))) (hp : H p = some (.ins C dx fs)) (cl : Cls K C) (na : NoAttr K C f) (hl : fs.length < 1000) (he : ∀ Q : VK, Q (.int z) H → te σ H Q)
    (k : ∀ H', H' p = some (.ins C dx (putF f (.int z) fs)) → But H H' p → D.nx σ H') : sFld K (tVar 0) te f D σ H :=
  he _ ⟨_, σ0, p, C, dx, fs, rfl, hp, cl, na, hl, k _ upd_same fun b o e hb => by rw [upd_ne hb]; exact e⟩
/-- self.f = a new list -/
theorem st_new {xs : List V} {te : TE} (σ0 : σ[0]? = some (some (.ref p))) (hp : H p = some (.ins C dx fs)) (cl : Cls K C) (na : NoAttr K C f) (hl : fs.length < 1000)
    (he : ∀ Q : VK, (∀ H1 l, H l = none → Same H H1 → H1 l = some (.lst xs) → Q (.ref l) H1) → te σ H Q)
    (k : ∀ H' l, H' p = some (.ins C dx (putF f (.ref l) fs)) → H' l = some (.lst xs) → H l = none → But H H' p → D.nx σ H') : sFld K (tVar 0) te f D σ H := by
  refine he _ fun H1 l hn s1 hl1 => ⟨_, σ0, p, C, dx, fs, rfl, s1 _ _ hp, cl, na, hl, ?_⟩
  have ne : l ≠ p := fun z => by rw [z, hp] at hn; cases hn
  exact k _ l upd_same (by rw [upd_ne ne]; exact hl1) hn fun b o e hb => by rw [upd_ne hb]; exact s1 b o e
theorem Same.new {l : Addr} {o : HO} (hl : H l = none) : Same H (upd H l o) := fun b u e => by rw [upd_ne (ne_of_none e hl)]; exact e
theorem flat_rep : ∀ n : Nat, (List.replicate n [V.int 0]).flatten = List.replicate n (V.int 0)
  | 0 => rfl
  | n + 1 => by rw [List.replicate_succ, List.flatten_cons, flat_rep n, List.replicate_succ]; rfl
/-- [0] * n -/
theorem te_rep {n : Nat} {tn : TE} (hn : n ≤ 100000) (he : ∀ (H : Hp) (Q : VK), Q (.int n) H → tn σ H Q) (Q : VK) (k : ∀ H1 l, H l = none → Same H H1 → H1 l = some (.lst ((List.replicate n (0 : Int)).map V.int)) → Q (.ref l) H1) :
    tOp rRep (tLst (tCons (tC (V.int 0)) tNil)) tn σ H Q := by
  refine ⟨by decide, fun l hl => he _ _ ⟨l, n, _, rfl, rfl, upd_same, by omega, by omega, ?_, fun l2 hl2 => ?_⟩⟩
  · show 1 * n ≤ 16777216
    omega
  · have e : ((List.replicate ((n : Int)).toNat [V.int 0]).flatten) = (List.replicate n (0 : Int)).map V.int := by
      rw [Int.toNat_natCast, List.map_replicate]
      exact flat_rep n
    have s1 := Same.new (o := .lst [V.int 0]) hl
    have s2 := Same.new (o := .lst ((List.replicate n (0 : Int)).map V.int)) hl2
    rw [e]
    exact k _ l2 (s1.free hl2) (s1.trans s2) upd_same
end
/-- the machine's attributes, one after another, over what stood there before -/
def sp_begin (C : Addr) : Sp := fun vs H Q _ => ∃ p dx fs seed, vs = [.ref p, .int seed] ∧ H p = some (.ins C dx fs) ∧ (fs = [] ∨ ∃ a m, fs = mf a m) ∧
  ∀ H' a', MAt C H' p dx a' (fresh seed) → But H H' p → (∀ b ∈ a'.all, H b = none) → Q .non H'
theorem But.mono {H H' : Hp} {p l : Addr} {xs : List V} {C dx : Addr} {fs : List (Str × V)} (b : But H H' p) (hp : H p = some (.ins C dx fs)) (h : H l = some (.lst xs)) : H' l = some (.lst xs) := b l _ h (ne_of h hp (by intro q; cases q))
theorem ne_new {H : Hp} {l l' : Addr} {o : HO} (h : H l = some o) (h' : H l' = none) : l ≠ l' := ne_of_none h h'
theorem ok_Machine_begin (T : Txt K mg A) : FnOk P w K mg base CX0 1 A.a_Machine_begin A.d_Machine_begin ["self", "seed"] (sp_begin A.c_Machine) := by
  refine T.f_Machine_begin.ok sc_Machine_begin (fun vs H Q E h => ?_) (fun cdv A' outer s H vs Q E hr h => ?_)
  · obtain ⟨p, dx, fs, seed, rfl, _⟩ := h; rfl
  · obtain ⟨p, dx, fs, seed, rfl, M, hfs, h⟩ := h
    refine ⟨_, (pss_cons (ps_fld (pv 0) (pe_op op_cat (pe_callTy call_list_of rfl T.n_list boot_list (pa_cons (pe_gref rfl T.g_DIGITS) pa_nil)) (pe_op op_rep (pe_lst (pa_cons pe_int pa_nil)) (pe_op op_sub (pe_gint rfl T.g_MEMORY_SIZE) (pe_callB call_len_seq rfl T.n_len PySem.boot_len (pa_cons (pe_gref rfl T.g_DIGITS) pa_nil))))) rfl) (pss_cons (ps_fld (pv 0) (pe_op op_rep (pe_lst (pa_cons pe_int pa_nil)) (pe_gint rfl T.g_REGISTER_COUNT)) rfl) (pss_cons (ps_fld (pv 0) (pe_op op_rep (pe_lst (pa_cons pe_int pa_nil)) (pe_gint rfl T.g_ASIDE_COUNT)) rfl) (pss_cons (ps_fld (pv 0) pe_int rfl) (pss_cons (ps_fld (pv 0) (pe_gint rfl T.g_FIRST_PC) rfl) (pss_cons (ps_fld (pv 0) (pe_lst pa_nil) rfl) (pss_cons (ps_fld (pv 0) pe_int rfl) (pss_cons (ps_fld (pv 0) pe_int rfl) (pss_cons (ps_fld (pv 0) (pe_op op_rep (pe_lst (pa_cons pe_int pa_nil)) (pe_gint rfl T.g_KEY_COUNT)) rfl) (pss_cons (ps_fld (pv 0) (pe_ifExp (pt_cmpR op_eq (pv 1) pe_int (nomark _)) pe_int (pv 1)) rfl) (pss_cons (ps_fld (pv 0) pe_int rfl) (pss_cons (ps_fld (pv 0) (pe_op op_rep (pe_lst (pa_cons pe_int pa_nil)) (pe_gint rfl T.g_SMALL_HEIGHT)) rfl) (pss_one (ps_fld (pv 0) (pe_gint rfl T.g_GOES_ON) rfl)))))))))))))), ?_⟩
    have lenp : ∀ (f : Str) (v : V) (gs : List (Str × V)) (n : Nat), gs.length ≤ n → (putF f v gs).length ≤ n + 1 := fun f v gs n hg => Nat.le_trans (length_putF f v gs) (by omega)
    have L0 : fs.length ≤ 20 := by
      rcases hfs with e | ⟨a, m, e⟩
      · rw [e]; decide
      · rw [e]; show 13 ≤ 20; decide
    -- memory
    refine st_new (xs := (fontZ ++ List.replicate (4096 - 80) (0 : Int)).map V.int) rfl M T.cl_Machine T.x_Machine_memory (by omega) (fun Q k => ?_) fun H1 l1 M1 c1 n1 B1 => ?_
    · have tD : TupK K A.k_DIGITS (fontZ.map V.int) := T.t_DIGITS
      refine ⟨A.k_DIGITS, _, rfl, .inr (tD.sq _), fun l hl => ?_⟩
      have s1 := Same.new (o := .lst (fontZ.map V.int)) hl
      refine te_rep (n := 4016) (by decide) (fun H' Q' q => ⟨A.k_DIGITS, _, rfl, .inr (tD.sq _), _, _, rfl, rfl, ?_⟩) _ fun H1 l1 hn s2 c1 => ?_
      · refine ⟨l, l1, _, _, rfl, rfl, s2 _ _ upd_same, c1, ?_, fun l2 hl2 => ?_⟩
        · rw [List.length_map, List.length_map, List.length_replicate]
          show 80 + 4016 ≤ 16777216
          decide
        · have s3 := Same.new (o := .lst (fontZ.map V.int ++ (List.replicate 4016 (0 : Int)).map V.int)) hl2
          have s12 : Same H H1 := s1.trans s2
          refine k _ l2 (s12.free hl2) (s12.trans s3) ?_
          rw [upd_same, List.map_append]
      · show Q' (V.int ((4096 : Int) - ((fontZ.map V.int).length : Nat))) H'
        have e : ((4096 : Int) - ((fontZ.map V.int).length : Nat)) = ((4016 : Nat) : Int) := by decide
        rw [e]
        exact q
    have L1 := lenp "memory" (.ref l1) _ _ L0
    refine st_new rfl M1 T.cl_Machine T.x_Machine_registers (by omega) (te_rep (n := 16) (by decide) fun _ _ q => q) fun H2 l2 M2 c2 n2 B2 => ?_
    have L2' := lenp "registers" (.ref l2) _ _ L1
    refine st_new rfl M2 T.cl_Machine T.x_Machine_aside (by omega) (te_rep (n := 8) (by decide) fun _ _ q => q) fun H3 l3 M3 c3 n3 B3 => ?_
    have L3 := lenp "aside" (.ref l3) _ _ L2'
    refine st_int (te := tC (.int 0)) rfl M3 T.cl_Machine T.x_Machine_i (by omega) (fun _ q => q) fun H4 M4 B4 => ?_
    have L4 := lenp "i" (.int 0) _ _ L3
    refine st_int (te := tC (.int 512)) rfl M4 T.cl_Machine T.x_Machine_pc (by omega) (fun _ q => q) fun H5 M5 B5 => ?_
    have L5 := lenp "pc" (.int 512) _ _ L4
    refine st_new (xs := []) (te := tLst tNil) rfl M5 T.cl_Machine T.x_Machine_places (by omega) (fun Q k => ⟨by decide, fun l hl => k _ l hl (Same.new hl) upd_same⟩) fun H6 l6 M6 c6 n6 B6 => ?_
    have L6 := lenp "places" (.ref l6) _ _ L5
    refine st_int (te := tC (.int 0)) rfl M6 T.cl_Machine T.x_Machine_wait (by omega) (fun _ q => q) fun H7 M7 B7 => ?_
    have L7 := lenp "wait" (.int 0) _ _ L6
    refine st_int (te := tC (.int 0)) rfl M7 T.cl_Machine T.x_Machine_sound (by omega) (fun _ q => q) fun H8 M8 B8 => ?_
    have L8 := lenp "sound" (.int 0) _ _ L7
    refine st_new rfl M8 T.cl_Machine T.x_Machine_pressed (by omega) (te_rep (n := 16) (by decide) fun _ _ q => q) fun H9 l9 M9 c9 n9 B9 => ?_
    have L9 := lenp "pressed" (.ref l9) _ _ L8
    refine st_int (z := if seed = 0 then 1 else seed) (te := tIf (tTest (tOp rEq (tVar 1) (tC (.int 0)))) (tC (.int 1)) (tVar 1)) rfl M9 T.cl_Machine T.x_Machine_chance (by omega) (fun Q q => ?_) fun H10 M10 B10 => ?_
    · have fx := trivial
      have tx := trivial
      walk_at "rd"
      split
      · rename_i e
        rw [if_pos e] at q
        exact q
      · rename_i e
        rw [if_neg e] at q
        exact q
    have L10 := lenp "chance" (.int (if seed = 0 then 1 else seed)) _ _ L9
    refine st_int (te := tC (.int 0)) rfl M10 T.cl_Machine T.x_Machine_large (by omega) (fun _ q => q) fun H11 M11 B11 => ?_
    have L11 := lenp "large" (.int 0) _ _ L10
    refine st_new rfl M11 T.cl_Machine T.x_Machine_rows (by omega) (te_rep (n := 32) (by decide) fun _ _ q => q) fun H12 l12 M12 c12 n12 B12 => ?_
    have L12 := lenp "rows" (.ref l12) _ _ L11
    refine st_int (te := tC (.int 0)) rfl M12 T.cl_Machine T.x_Machine_stopped_by (by omega) (fun _ q => q) fun H13 M13 B13 => ?_
    have D1 := B1
    have D2 := D1.trans B2
    have D3 := D2.trans B3
    have D4 := D3.trans B4
    have D5 := D4.trans B5
    have D6 := D5.trans B6
    have D7 := D6.trans B7
    have D8 := D7.trans B8
    have D9 := D8.trans B9
    have D10 := D9.trans B10
    have D11 := D10.trans B11
    have D12 := D11.trans B12
    have D13 := D12.trans B13
    have z1 := n1
    have e1_2 := B2.mono M1 c1
    have d1_2 : l1 ≠ l2 := ne_of_none c1 n2
    have z2 := D1.free M1 n2
    have e1_3 := B3.mono M2 e1_2
    have e2_3 := B3.mono M2 c2
    have d1_3 : l1 ≠ l3 := ne_of_none e1_2 n3
    have d2_3 : l2 ≠ l3 := ne_of_none c2 n3
    have z3 := D2.free M2 n3
    have e1_4 := B4.mono M3 e1_3
    have e2_4 := B4.mono M3 e2_3
    have e3_4 := B4.mono M3 c3
    have e1_5 := B5.mono M4 e1_4
    have e2_5 := B5.mono M4 e2_4
    have e3_5 := B5.mono M4 e3_4
    have e1_6 := B6.mono M5 e1_5
    have e2_6 := B6.mono M5 e2_5
    have e3_6 := B6.mono M5 e3_5
    have d1_6 : l1 ≠ l6 := ne_of_none e1_5 n6
    have d2_6 : l2 ≠ l6 := ne_of_none e2_5 n6
    have d3_6 : l3 ≠ l6 := ne_of_none e3_5 n6
    have z6 := D5.free M5 n6
    have e1_7 := B7.mono M6 e1_6
    have e2_7 := B7.mono M6 e2_6
    have e3_7 := B7.mono M6 e3_6
    have e6_7 := B7.mono M6 c6
    have e1_8 := B8.mono M7 e1_7
    have e2_8 := B8.mono M7 e2_7
    have e3_8 := B8.mono M7 e3_7
    have e6_8 := B8.mono M7 e6_7
    have e1_9 := B9.mono M8 e1_8
    have e2_9 := B9.mono M8 e2_8
    have e3_9 := B9.mono M8 e3_8
    have e6_9 := B9.mono M8 e6_8
    have d1_9 : l1 ≠ l9 := ne_of_none e1_8 n9
    have d2_9 : l2 ≠ l9 := ne_of_none e2_8 n9
    have d3_9 : l3 ≠ l9 := ne_of_none e3_8 n9
    have d6_9 : l6 ≠ l9 := ne_of_none e6_8 n9
    have z9 := D8.free M8 n9
    have e1_10 := B10.mono M9 e1_9
    have e2_10 := B10.mono M9 e2_9
    have e3_10 := B10.mono M9 e3_9
    have e6_10 := B10.mono M9 e6_9
    have e9_10 := B10.mono M9 c9
    have e1_11 := B11.mono M10 e1_10
    have e2_11 := B11.mono M10 e2_10
    have e3_11 := B11.mono M10 e3_10
    have e6_11 := B11.mono M10 e6_10
    have e9_11 := B11.mono M10 e9_10
    have e1_12 := B12.mono M11 e1_11
    have e2_12 := B12.mono M11 e2_11
    have e3_12 := B12.mono M11 e3_11
    have e6_12 := B12.mono M11 e6_11
    have e9_12 := B12.mono M11 e9_11
    have d1_12 : l1 ≠ l12 := ne_of_none e1_11 n12
    have d2_12 : l2 ≠ l12 := ne_of_none e2_11 n12
    have d3_12 : l3 ≠ l12 := ne_of_none e3_11 n12
    have d6_12 : l6 ≠ l12 := ne_of_none e6_11 n12
    have d9_12 : l9 ≠ l12 := ne_of_none e9_11 n12
    have z12 := D11.free M11 n12
    have e1_13 := B13.mono M12 e1_12
    have e2_13 := B13.mono M12 e2_12
    have e3_13 := B13.mono M12 e3_12
    have e6_13 := B13.mono M12 e6_12
    have e9_13 := B13.mono M12 e9_12
    have e12_13 := B13.mono M12 c12
    have eF : putF "stopped_by" (V.int 0) (putF "rows" (V.ref l12) (putF "large" (V.int 0) (putF "chance" (V.int (if seed = 0 then 1 else seed)) (putF "pressed" (V.ref l9) (putF "sound" (V.int 0) (putF "wait" (V.int 0) (putF "places" (V.ref l6) (putF "pc" (V.int 512) (putF "i" (V.int 0) (putF "aside" (V.ref l3) (putF "registers" (V.ref l2) (putF "memory" (V.ref l1) fs)))))))))))) = mf ⟨l1, l2, l3, l6, l9, l12⟩ (fresh seed) := by
      rcases hfs with e | ⟨a, m, e⟩
      · rw [e]; rfl
      · rw [e]; rfl
    refine h H13 ⟨l1, l2, l3, l6, l9, l12⟩ ⟨by rw [M13, eF], e1_13, e2_13, e3_13, e6_13, e9_13, e12_13, ?_⟩ D13 ?_
    · simp [MA.all, d1_2, d1_3, d1_6, d1_9, d1_12, d2_3, d2_6, d2_9, d2_12, d3_6, d3_9, d3_12, d6_9, d6_12, d9_12]
    · intro b hb
      simp only [MA.all, List.mem_cons, List.not_mem_nil, or_false] at hb
      rcases hb with e | e | e | e | e | e <;> rw [e] <;> assumption
def sp_Machine_init (C : Addr) : Sp := fun vs H Q _ => ∃ p dx, vs = [.ref p] ∧ H p = some (.ins C dx []) ∧ ∀ H' a', MAt C H' p dx a' (fresh 0) → But H H' p → (∀ b ∈ a'.all, H b = none) → Q .non H'
theorem ok_Machine___init__ (T : Txt K mg A) : FnOk P w K mg base CX0 2 A.a_Machine___init__ A.d_Machine___init__ ["self"] (sp_Machine_init A.c_Machine) := by
  have G_Machine_begin : FnOk P w K mg base CX0 _ _ _ _ _ := ok_Machine_begin T
  refine T.f_Machine___init__.ok sc_Machine___init__ (fun vs H Q E h => ?_) (fun cdv A' outer s H vs Q E hr h => ?_)
  · obtain ⟨p, dx, rfl, _⟩ := h; rfl
  · obtain ⟨p, dx, rfl, M, h⟩ := h
    refine ⟨_, (pss_one (ps_expr (pe_meth (pv 0) T.cl_Machine T.m_Machine_begin G_Machine_begin (hr.mono (by decide)) T.b_Machine_begin .nil pass0 (pa_cons pe_int pa_nil)))), ?_⟩
    exact ⟨_, rfl, p, dx, [], rfl, M, rfl, p, dx, [], 0, rfl, M, .inl rfl, fun H' a' M' B' F' => h H' a' M' B' F'⟩
def sp_clear (C : Addr) : Sp := fun vs H Q _ => ∃ p dx a m seed, vs = [.ref p, .int seed] ∧ MAt C H p dx a m ∧ Done C H p dx a Q (fresh seed) [0]
theorem ok_c8_clear (T : Txt K mg A) : FnOk P w K mg base CX0 2 A.a_c8_clear A.d_c8_clear ["machine", "seed"] (sp_clear A.c_Machine) := by
  have G_Machine_begin : FnOk P w K mg base CX0 _ _ _ _ _ := ok_Machine_begin T
  refine T.f_c8_clear.ok sc_c8_clear (fun vs H Q E h => ?_) (fun cdv A' outer s H vs Q E hr h => ?_)
  · obtain ⟨p, dx, a, m, seed, rfl, _⟩ := h; rfl
  · obtain ⟨p, dx, a, m, seed, rfl, M, h⟩ := h
    refine ⟨_, (pss_cons (ps_expr (pe_meth (pv 0) T.cl_Machine T.m_Machine_begin G_Machine_begin (hr.mono (by decide)) T.b_Machine_begin .nil pass0 (pa_cons (pv 1) pa_nil))) (pss_one (ps_ret (pe_lst (pa_cons (pe_gint rfl T.g_DONE) pa_nil))))), ?_⟩
    refine ⟨_, rfl, p, dx, _, rfl, M.ob, (by rfl), _, rfl, p, dx, _, seed, rfl, M.ob, .inr ⟨a, m, rfl⟩, fun H' a' M' B' F' => ⟨by decide, fun l hl => ?_⟩⟩
    have M2 := M'.new (o := .lst [V.int 0]) hl
    refine h _ a' l M2 (fun b o e n1 n2 => ?_) (fun b hb => .inr (F' b hb)) (B'.free M'.ob hl) upd_same
    have e2 := B' b o e n1
    rw [upd_ne (ne_of_none e2 hl)]
    exact e2
end
end Sg
end
section
set_option Elab.async false
set_option linter.all false
set_option maxRecDepth 100000
set_option maxHeartbeats 2000000
set_option hygiene false
namespace Sg
open PySem PySem.Spec PyProof.Rows L2
local macro_rules | `(tactic| walk_at "rd") => `(tactic| simp only [tRet, tRetN, tIf, tIfS, tTest, tOp, tUn, tVar, tC, tSeq, tAsg, gName, tDrop, tNext, tFld, sFld, sFldAug, tCall, tMeth, tCB, tCons, tNil, tLst, tTup, tAnd, tOr, tNot, tAndV, tOrV, tNotV, tSl, tPart, tNoPart, rU, rI, rI0, rEq, rNe, rAdd, rSub, rIxL, rSetL, gSub, start_def, scal_ii, scal_bb, cxOf_K, List.map_cons, List.map_nil, List.cons_append, List.nil_append, List.append_nil, List.length_cons, List.length_nil, Nat.reduceAdd, Nat.reduceSub, List.replicate_succ, List.replicate_zero, List.getElem?_cons_zero, List.getElem?_cons_succ, List.set_cons_zero, List.set_cons_succ, Option.some.injEq, V.int.injEq, V.ref.injEq, V.bl.injEq, HO.ins.injEq, HO.lst.injEq, exists_eq_left, exists_eq_left', exists_and_left, and_assoc, true_and, and_true, decide_eq_true_eq, mf_len, lk_numbers, lk_place, lk_take, pt_place, rf_len, lk_mem, lk_regs, lk_aside, lk_i, lk_pc, lk_places, lk_wait, lk_sound, lk_pressed, lk_chance, lk_large, lk_rows, lk_why, pt_why, pt_mem, pt_rows, tIxK, tCallV, pt_i, pt_pc, pt_wait, pt_sound, pt_chance, pt_large, upd_same, upd_upd, List.cons.injEq, ite_true, ite_false, eq_self, Int.reduceEq, Int.reduceNeg, decide_true, decide_false, reduceCtorEq, if_true, if_false, Bool.not_eq_true, Bool.not_true, Bool.not_false, Bool.true_eq_false, Bool.false_eq_true, ← List.map_set, List.length_map, ipI, ipC, tAug, tAugS, rGetL, rAppend, rExtend, rPop, rCat, rRep, gCons, gNil,  rSlL, truV_bl, truV_int, fx, tx])
local macro_rules | `(tactic| walk_at "nx") => `(tactic| try simp only [tSeq, tAsg, tIfS, tTest, tOp, rEq, rNe, tVar, tC, tNext, gName, tRet, tCall, tCons, tNil, scal_ii, start_def, List.map_cons, List.map_nil, List.cons_append, List.nil_append, List.append_nil, List.length_cons, List.length_nil, Nat.reduceAdd, Nat.reduceSub, List.replicate_succ, List.replicate_zero, List.getElem?_cons_zero, List.getElem?_cons_succ, List.set_cons_zero, List.set_cons_succ, Option.some.injEq, V.ref.injEq, V.int.injEq, V.bl.injEq, exists_eq_left', exists_eq_left, exists_and_left, true_and, and_true, and_assoc, ite_true, ite_false, eq_self, Int.reduceEq, Int.reduceNeg, decide_true, decide_false, decide_eq_true_eq, reduceCtorEq, Bool.false_eq_true, if_true, if_false, ↓reduceIte, cxOf_K])
local macro_rules | `(tactic| walk_at "me") => `(tactic| simp only [tMeth, tVar, tNil, List.getElem?_cons_zero, List.getElem?_cons_succ, Option.some.injEq, V.ref.injEq, exists_eq_left', exists_eq_left, fx, HO.ins.injEq, exists_and_left, true_and, and_assoc, lk_take, lk_take_row, List.append_nil, List.nil_append])
section
variable {P : Program} {w : World} {K : PySem.W.Frag} {mg : Str → Option Value} {base : Heap} {A : Ad}
theorem atZ {ns : List Int} {z : Int} {j : Nat} {v : Int} (e : z = (j : Int)) (h : ns[j]? = some v) : atI (ns.map V.int) z = some (V.int v) := by
  rw [e]; exact atI_ints h
theorem ixZ {n : Nat} {z : Int} {j : Nat} (e : z = (j : Int)) (h : j < n) : ixN n z = some j := by
  rw [e, ixN_nat (by omega) (by omega), Int.toNat_natCast]
def sp_digit_x : Sp := fun vs H Q _ => ∃ w : Nat, vs = [.int w] ∧ Q (.int ((w / 256 % 16 : Nat) : Int)) H
theorem ok_digit_x (T : Txt K mg A) : FnOk P w K mg base CX0 1 A.a_digit_x A.d_digit_x ["word"] sp_digit_x := by
  refine T.f_digit_x.ok sc_digit_x (fun vs H Q E h => ?_) (fun cdv A' outer s H vs Q E hr h => ?_)
  · obtain ⟨n, rfl, _⟩ := h; rfl
  · obtain ⟨n, rfl, h⟩ := h
    refine ⟨_, (pss_one (ps_ret (pe_op op_mod (pe_op op_fdiv (pv 0) pe_int) pe_int))), ?_⟩
    have fx := trivial
    have tx := trivial
    walk_at "rd"
    refine ⟨⟨by decide, by decide⟩, by decide, ?_⟩
    have e : ((n : Int) / 256 % 16) = ((n / 256 % 16 : Nat) : Int) := by omega
    rw [e]
    exact h
def sp_digit_y : Sp := fun vs H Q _ => ∃ w : Nat, vs = [.int w] ∧ Q (.int ((w / 16 % 16 : Nat) : Int)) H
theorem ok_digit_y (T : Txt K mg A) : FnOk P w K mg base CX0 1 A.a_digit_y A.d_digit_y ["word"] sp_digit_y := by
  refine T.f_digit_y.ok sc_digit_y (fun vs H Q E h => ?_) (fun cdv A' outer s H vs Q E hr h => ?_)
  · obtain ⟨n, rfl, _⟩ := h; rfl
  · obtain ⟨n, rfl, h⟩ := h
    refine ⟨_, (pss_one (ps_ret (pe_op op_mod (pe_op op_fdiv (pv 0) pe_int) pe_int))), ?_⟩
    have fx := trivial
    have tx := trivial
    walk_at "rd"
    refine ⟨⟨by decide, by decide⟩, by decide, ?_⟩
    have e : ((n : Int) / 16 % 16) = ((n / 16 % 16 : Nat) : Int) := by omega
    rw [e]
    exact h
def sp_value_x (C : Addr) : Sp := fun vs H Q _ => ∃ p dx a m st, ∃ w : Nat, vs = [.ref p, .int w] ∧ MAt C H p dx a m ∧ R m st ∧ Q (.int ((st.reg (w / 256 % 16) : Nat) : Int)) H
theorem ok_value_x (T : Txt K mg A) : FnOk P w K mg base CX0 2 A.a_value_x A.d_value_x ["machine", "word"] (sp_value_x A.c_Machine) := by
  have G_digit_x : FnOk P w K mg base CX0 _ _ _ _ _ := ok_digit_x T
  refine T.f_value_x.ok sc_value_x (fun vs H Q E h => ?_) (fun cdv A' outer s H vs Q E hr h => ?_)
  · obtain ⟨p, dx, a, m, st, n, rfl, _⟩ := h; rfl
  · obtain ⟨p, dx, a, m, st, n, rfl, M, hR, h⟩ := h
    refine ⟨_, (pss_one (ps_ret (pe_ix ix_list (pe_fld (pv 0) rfl) (pe_call G_digit_x (hr.mono (by decide)) rfl T.g_digit_x T.f_digit_x.kp T.b_digit_x .nil pass0 (pa_cons (pv 1) pa_nil)) (fun _ _ => rfl)))), ?_⟩
    have fx := M.facts
    have tx := T.z_Machine
    unfold sp_digit_x
    walk_at "rd"
    exact ⟨n, rfl, _, SqL.of M.regs, _, atI_ints (hR.reg (by omega)), h⟩
def sp_value_y (C : Addr) : Sp := fun vs H Q _ => ∃ p dx a m st, ∃ w : Nat, vs = [.ref p, .int w] ∧ MAt C H p dx a m ∧ R m st ∧ Q (.int ((st.reg (w / 16 % 16) : Nat) : Int)) H
theorem ok_value_y (T : Txt K mg A) : FnOk P w K mg base CX0 2 A.a_value_y A.d_value_y ["machine", "word"] (sp_value_y A.c_Machine) := by
  have G_digit_y : FnOk P w K mg base CX0 _ _ _ _ _ := ok_digit_y T
  refine T.f_value_y.ok sc_value_y (fun vs H Q E h => ?_) (fun cdv A' outer s H vs Q E hr h => ?_)
  · obtain ⟨p, dx, a, m, st, n, rfl, _⟩ := h; rfl
  · obtain ⟨p, dx, a, m, st, n, rfl, M, hR, h⟩ := h
    refine ⟨_, (pss_one (ps_ret (pe_ix ix_list (pe_fld (pv 0) rfl) (pe_call G_digit_y (hr.mono (by decide)) rfl T.g_digit_y T.f_digit_y.kp T.b_digit_y .nil pass0 (pa_cons (pv 1) pa_nil)) (fun _ _ => rfl)))), ?_⟩
    have fx := M.facts
    have tx := T.z_Machine
    unfold sp_digit_y
    walk_at "rd"
    exact ⟨n, rfl, _, SqL.of M.regs, _, atI_ints (hR.reg (by omega)), h⟩
def sp_go_to (C : Addr) : Sp := fun vs H Q _ => ∃ p dx a m st, ∃ n : Nat, vs = [.ref p, .int n] ∧ MAt C H p dx a m ∧ R m st ∧ Nxt C p dx H a m (st.jump n) Q (.int 0)
theorem ok_go_to (T : Txt K mg A) : FnOk P w K mg base CX0 1 A.a_go_to A.d_go_to ["machine", "place"] (sp_go_to A.c_Machine) := by
  refine T.f_go_to.ok sc_go_to (fun vs H Q E h => ?_) (fun cdv A' outer s H vs Q E hr h => ?_)
  · obtain ⟨p, dx, a, m, st, n, rfl, _⟩ := h; rfl
  · obtain ⟨p, dx, a, m, st, n, rfl, M, hR, h⟩ := h
    refine ⟨_, (pss_cons (ps_fld (pv 0) (pe_op op_mod (pv 1) (pe_gint rfl T.g_MEMORY_SIZE)) rfl) (pss_one (ps_ret (pe_gint rfl T.g_GOES_ON)))), ?_⟩
    have fx := M.facts
    have tx := T.z_Machine
    walk_at "rd"
    refine ⟨by decide, ?_⟩
    have e : (n : Int) % 4096 = ((n % 4096 : Nat) : Int) := by omega
    rw [e]
    exact h _ a _ (.same (MAt.put M _ (by exact ⟨rfl, rfl, rfl, rfl, rfl, rfl⟩)) (Frm.put H _)) (hR.jump n) rfl
def sp_pass_over_if (C : Addr) : Sp := fun vs H Q _ => ∃ p dx a m st b, vs = [.ref p, .bl b] ∧ MAt C H p dx a m ∧ R m st ∧ Nxt C p dx H a m (st.skip b) Q (.int 0)
theorem ok_pass_over_if (T : Txt K mg A) : FnOk P w K mg base CX0 1 A.a_pass_over_if A.d_pass_over_if ["machine", "wanted"] (sp_pass_over_if A.c_Machine) := by
  refine T.f_pass_over_if.ok sc_pass_over_if (fun vs H Q E h => ?_) (fun cdv A' outer s H vs Q E hr h => ?_)
  · obtain ⟨p, dx, a, m, st, b, rfl, _⟩ := h; rfl
  · obtain ⟨p, dx, a, m, st, b, rfl, M, hR, h⟩ := h
    refine ⟨_, (pss_cons (ps_if (pt_truth (pv 1) (fun _ => rfl)) (pss_one (ps_fld (pv 0) (pe_op op_mod (pe_op op_add (pe_fld (pv 0) rfl) pe_int) (pe_gint rfl T.g_MEMORY_SIZE)) rfl)) pss_nil) (pss_one (ps_ret (pe_gint rfl T.g_GOES_ON)))), ?_⟩
    have fx := M.facts
    have tx := T.z_Machine
    walk_at "rd"
    cases b with
    | false => exact iteF (h H a m (.refl M) hR rfl)
    | true =>
      refine iteT ⟨by decide, ?_⟩
      have e : (m.pc + 2) % 4096 = (((st.pc + 2) % 4096 : Nat) : Int) := by rw [hR.pc]; omega
      rw [e]
      exact h _ a _ (.same (MAt.put M _ (by exact ⟨rfl, rfl, rfl, rfl, rfl, rfl⟩)) (Frm.put H _)) (hR.jump _) rfl
theorem R.memAt {m : MS} {st : Sz36.St} (h : R m st) (n : Nat) : m.mem[n % 4096]? = some ((st.get n : Nat) : Int) := by
  rw [h.mem, tab_get _ (Nat.mod_lt _ (by decide))]
  rfl
def sp_word_at (C : Addr) : Sp := fun vs H Q _ => ∃ p dx a m st, ∃ n : Nat, vs = [.ref p, .int n] ∧ MAt C H p dx a m ∧ R m st ∧ Q (.int ((256 * st.get n + st.get (n + 1) : Nat) : Int)) H
theorem ok_word_at (T : Txt K mg A) : FnOk P w K mg base CX0 1 A.a_word_at A.d_word_at ["machine", "place"] (sp_word_at A.c_Machine) := by
  refine T.f_word_at.ok sc_word_at (fun vs H Q E h => ?_) (fun cdv A' outer s H vs Q E hr h => ?_)
  · obtain ⟨p, dx, a, m, st, n, rfl, _⟩ := h; rfl
  · obtain ⟨p, dx, a, m, st, n, rfl, M, hR, h⟩ := h
    refine ⟨_, (pss_one (ps_ret (pe_op op_add (pe_op op_mul (pe_ix ix_list (pe_fld (pv 0) rfl) (pe_op op_mod (pv 1) (pe_gint rfl T.g_MEMORY_SIZE)) (fun _ _ => rfl)) pe_int) (pe_ix ix_list (pe_fld (pv 0) rfl) (pe_op op_mod (pe_op op_add (pv 1) pe_int) (pe_gint rfl T.g_MEMORY_SIZE)) (fun _ _ => rfl))))), ?_⟩
    have fx := M.facts
    have tx := T.z_Machine
    walk_at "rd"
    refine ⟨by decide, _, SqL.of M.mem, _, atZ (j := n % 4096) (by omega) (hR.memAt n), _, rfl, .inr ⟨by decide, by decide⟩, by decide, _, SqL.of M.mem, _, atZ (j := (n + 1) % 4096) (by omega) (hR.memAt (n + 1)), _, rfl, ?_⟩
    have e : ((st.get n : Nat) : Int) * 256 + ((st.get (n + 1) : Nat) : Int) = ((256 * st.get n + st.get (n + 1) : Nat) : Int) := by omega
    rw [e]
    exact h
def sp_screen_width (C : Addr) : Sp := fun vs H Q _ => ∃ p dx a m st, vs = [.ref p] ∧ MAt C H p dx a m ∧ R m st ∧ Q (.int ((Sz36.wide st : Nat) : Int)) H
theorem ok_screen_width (T : Txt K mg A) : FnOk P w K mg base CX0 1 A.a_screen_width A.d_screen_width ["machine"] (sp_screen_width A.c_Machine) := by
  refine T.f_screen_width.ok sc_screen_width (fun vs H Q E h => ?_) (fun cdv A' outer s H vs Q E hr h => ?_)
  · obtain ⟨p, dx, a, m, st, rfl, _⟩ := h; rfl
  · obtain ⟨p, dx, a, m, st, rfl, M, hR, h⟩ := h
    refine ⟨_, (pss_one (ps_ret (pe_ifExp (pt_cmpR op_eq (pe_fld (pv 0) rfl) pe_int (nomark _)) (pe_gint rfl T.g_LARGE_WIDTH) (pe_gint rfl T.g_SMALL_WIDTH)))), ?_⟩
    have fx := M.facts
    have tx := T.z_Machine
    walk_at "rd"
    have e := hR.large
    unfold Sz36.wide at h
    cases hl : st.large <;> rw [hl] at e h <;> simp at e h
    · rw [if_neg (by omega)]; exact h
    · rw [if_pos e]; exact h
def sp_fit_points : Sp := fun vs H Q _ => ∃ b n room : Nat, vs = [.int b, .int n, .int room] ∧ b < 65536 ∧ room ≤ 128 ∧ Q (.int ((fitN b n room : Nat) : Int)) H
theorem ok_fit_points (T : Txt K mg A) : FnOk P w K mg base CX0 1 A.a_fit_points A.d_fit_points ["points", "shape_width", "room"] sp_fit_points := by
  refine T.f_fit_points.ok sc_fit_points (fun vs H Q E h => ?_) (fun cdv A' outer s H vs Q E hr h => ?_)
  · obtain ⟨b, n, room, rfl, _⟩ := h; rfl
  · obtain ⟨b, n, room, rfl, hb, hroom, h⟩ := h
    refine ⟨_, (pss_cons (ps_if (pt_cmpR op_lt (pv 2) (pv 1) (nomark _)) (pss_one (ps_ret (pe_op op_shr (pv 0) (pe_op op_sub (pv 1) (pv 2))))) pss_nil) (pss_one (ps_ret (pe_op op_shlB (pv 0) (pe_op op_sub (pv 2) (pv 1)))))), ?_⟩
    have fx := trivial
    have tx := trivial
    walk_at "rd"
    unfold fitN at h
    refine ite2 (fun e => ?_) fun e => ?_
    · rw [if_pos (by omega)] at h
      refine ⟨by omega, ?_⟩
      have e2 : ((n : Int) - (room : Int)) = ((n - room : Nat) : Int) := by omega
      rw [e2, sShr]
      exact h
    · rw [if_neg (by omega)] at h
      refine ⟨⟨by omega, by omega, ?_⟩, ?_⟩
      · have : (65536 : Nat) < 2 ^ 1000 := by decide
        omega
      have e2 : ((room : Int) - (n : Int)) = ((room - n : Nat) : Int) := by omega
      rw [e2, sShl]
      exact h
theorem next_eq {c : Nat} (hc : c < 2 ^ 32) : ((c ^^^ (c * 2 ^ 13)) % 4294967296 ^^^ ((c ^^^ (c * 2 ^ 13)) % 4294967296 / 2 ^ 17) ^^^ ((c ^^^ (c * 2 ^ 13)) % 4294967296 ^^^ ((c ^^^ (c * 2 ^ 13)) % 4294967296 / 2 ^ 17)) * 2 ^ 5) % 4294967296 = Sz36.next c ∧ Sz36.next c < 2 ^ 32 := by
  have p32 : (4294967296 : Nat) = 2 ^ 32 := by decide
  have e1 : (c ^^^ (c * 2 ^ 13)) % 4294967296 = c ^^^ (c * 2 ^ 13 % 2 ^ 32) := by
    rw [p32, Nat.xor_mod_two_pow, Nat.mod_eq_of_lt hc]
  have h1 : c ^^^ (c * 2 ^ 13 % 2 ^ 32) < 2 ^ 32 := Nat.xor_lt_two_pow hc (Nat.mod_lt _ (by decide))
  rw [e1]
  unfold Sz36.next
  simp only
  generalize c ^^^ (c * 2 ^ 13 % 2 ^ 32) = a at h1 ⊢
  have h2 : a ^^^ (a / 2 ^ 17) < 2 ^ 32 := Nat.xor_lt_two_pow h1 (Nat.lt_of_le_of_lt (Nat.div_le_self ..) h1)
  generalize a ^^^ (a / 2 ^ 17) = b at h2 ⊢
  have e3 : (b ^^^ b * 2 ^ 5) % 4294967296 = b ^^^ (b * 2 ^ 5 % 2 ^ 32) := by
    rw [p32, Nat.xor_mod_two_pow, Nat.mod_eq_of_lt h2]
  exact ⟨e3, Nat.xor_lt_two_pow h2 (Nat.mod_lt _ (by decide))⟩
def sp_next_chance : Sp := fun vs H Q _ => ∃ c : Nat, vs = [.int c] ∧ c < 2 ^ 32 ∧ Q (.int ((Sz36.next c : Nat) : Int)) H
theorem cshl {a n : Nat} (ha : a < 2 ^ 40) (hn : n ≤ 100) : CShl (a : Int) (n : Int) := by
  refine ⟨by omega, by omega, ?_⟩
  have : (2 ^ 40 : Nat) < 2 ^ 1000 := by decide
  omega
theorem ok_next_chance (T : Txt K mg A) : FnOk P w K mg base CX0 1 A.a_next_chance A.d_next_chance ["state"] sp_next_chance := by
  refine T.f_next_chance.ok sc_next_chance (fun vs H Q E h => ?_) (fun cdv A' outer s H vs Q E hr h => ?_)
  · obtain ⟨c, rfl, _⟩ := h; rfl
  · obtain ⟨c, rfl, hc, h⟩ := h
    refine ⟨_, (pss_cons (ps_set (i := 0) sc_next_chance.nd rfl (Or.inl rfl) (pe_op op_mod (pe_op op_xor (pv 0) (pe_op op_shlB (pv 0) pe_int)) (pe_gint rfl T.g_STATE_COUNT))) (pss_cons (ps_set (i := 0) sc_next_chance.nd rfl (Or.inl rfl) (pe_op op_xor (pv 0) (pe_op op_shr (pv 0) pe_int))) (pss_one (ps_ret (pe_op op_mod (pe_op op_xor (pv 0) (pe_op op_shlB (pv 0) pe_int)) (pe_gint rfl T.g_STATE_COUNT)))))), ?_⟩
    have fx := trivial
    have tx := trivial
    walk_at "rd"
    have e1 : Builtin.bitXor (c : Int) ((c : Int) * 2 ^ Int.toNat 13) % 4294967296 = (((c ^^^ (c * 2 ^ 13)) % 4294967296 : Nat) : Int) := by
      have e : (c : Int) * 2 ^ Int.toNat 13 = ((c * 2 ^ 13 : Nat) : Int) := sShl c 13
      rw [e, bXor]
      omega
    rw [e1]
    have hx := next_eq hc
    have ha : (c ^^^ (c * 2 ^ 13)) % 4294967296 < 2 ^ 32 := Nat.mod_lt _ (by decide)
    generalize (c ^^^ (c * 2 ^ 13)) % 4294967296 = x at hx ha ⊢
    have e2 : Builtin.bitXor (x : Int) ((x : Int) / 2 ^ Int.toNat 17) = ((x ^^^ (x / 2 ^ 17) : Nat) : Int) := by
      have e : (x : Int) / 2 ^ Int.toNat 17 = ((x / 2 ^ 17 : Nat) : Int) := sShr x 17
      rw [e, bXor]
    rw [e2]
    have hb : x ^^^ (x / 2 ^ 17) < 2 ^ 32 := Nat.xor_lt_two_pow ha (Nat.lt_of_le_of_lt (Nat.div_le_self ..) ha)
    generalize x ^^^ (x / 2 ^ 17) = y at hx hb ⊢
    have e3 : Builtin.bitXor (y : Int) ((y : Int) * 2 ^ Int.toNat 5) % 4294967296 = (((y ^^^ (y * 2 ^ 5)) % 4294967296 : Nat) : Int) := by
      have e : (y : Int) * 2 ^ Int.toNat 5 = ((y * 2 ^ 5 : Nat) : Int) := sShl y 5
      rw [e, bXor]
      omega
    rw [e3, hx.1]
    exact ⟨cshl (n := 13) (by omega) (by decide), by decide, by decide, cshl (n := 5) (by omega) (by decide), by decide, h⟩
end
end Sg
end
section
set_option Elab.async false
set_option linter.all false
set_option maxRecDepth 100000
set_option maxHeartbeats 2000000
set_option hygiene false
namespace Sg
open PySem PySem.Spec PyProof.Rows L2
local macro_rules | `(tactic| walk_at "rd") => `(tactic| simp only [tRet, tRetN, tIf, tIfS, tTest, tOp, tUn, tVar, tC, tSeq, tAsg, gName, tDrop, tNext, tFld, sFld, sFldAug, tCall, tMeth, tCB, tCons, tNil, tLst, tTup, tAnd, tOr, tNot, tAndV, tOrV, tNotV, tSl, tPart, tNoPart, rU, rI, rI0, rEq, rNe, rAdd, rSub, rIxL, rSetL, gSub, start_def, scal_ii, scal_bb, cxOf_K, List.map_cons, List.map_nil, List.cons_append, List.nil_append, List.append_nil, List.length_cons, List.length_nil, Nat.reduceAdd, Nat.reduceSub, List.replicate_succ, List.replicate_zero, List.getElem?_cons_zero, List.getElem?_cons_succ, List.set_cons_zero, List.set_cons_succ, Option.some.injEq, V.int.injEq, V.ref.injEq, V.bl.injEq, HO.ins.injEq, HO.lst.injEq, exists_eq_left, exists_eq_left', exists_and_left, and_assoc, true_and, and_true, decide_eq_true_eq, mf_len, lk_numbers, lk_place, lk_take, pt_place, rf_len, lk_mem, lk_regs, lk_aside, lk_i, lk_pc, lk_places, lk_wait, lk_sound, lk_pressed, lk_chance, lk_large, lk_rows, lk_why, pt_why, pt_mem, pt_rows, tIxK, tCallV, pt_i, pt_pc, pt_wait, pt_sound, pt_chance, pt_large, upd_same, upd_upd, List.cons.injEq, ite_true, ite_false, eq_self, Int.reduceEq, Int.reduceNeg, decide_true, decide_false, reduceCtorEq, if_true, if_false, Bool.not_eq_true, Bool.not_true, Bool.not_false, Bool.true_eq_false, Bool.false_eq_true, ← List.map_set, List.length_map, ipI, ipC, tAug, tAugS, rGetL, rAppend, rExtend, rPop, rCat, rRep, gCons, gNil,  rSlL, truV_bl, truV_int, fx, tx])
local macro_rules | `(tactic| walk_at "nx") => `(tactic| try simp only [tSeq, tAsg, tIfS, tTest, tOp, rEq, rNe, tVar, tC, tNext, gName, tRet, tCall, tCons, tNil, scal_ii, start_def, List.map_cons, List.map_nil, List.cons_append, List.nil_append, List.append_nil, List.length_cons, List.length_nil, Nat.reduceAdd, Nat.reduceSub, List.replicate_succ, List.replicate_zero, List.getElem?_cons_zero, List.getElem?_cons_succ, List.set_cons_zero, List.set_cons_succ, Option.some.injEq, V.ref.injEq, V.int.injEq, V.bl.injEq, exists_eq_left', exists_eq_left, exists_and_left, true_and, and_true, and_assoc, ite_true, ite_false, eq_self, Int.reduceEq, Int.reduceNeg, decide_true, decide_false, decide_eq_true_eq, reduceCtorEq, Bool.false_eq_true, if_true, if_false, ↓reduceIte, cxOf_K])
local macro_rules | `(tactic| walk_at "me") => `(tactic| simp only [tMeth, tVar, tNil, List.getElem?_cons_zero, List.getElem?_cons_succ, Option.some.injEq, V.ref.injEq, exists_eq_left', exists_eq_left, fx, HO.ins.injEq, exists_and_left, true_and, and_assoc, lk_take, lk_take_row, List.append_nil, List.nil_append])
section
variable {P : Program} {w : World} {K : PySem.W.Frag} {mg : Str → Option Value} {base : Heap} {A : Ad}
theorem R.setB {m : MS} {st : Sz36.St} (h : R m st) {x v : Nat} (hx : x < 16) (hv : v < 256) : R { m with regs := m.regs.set x (v : Int) } (st.set x v) := by
  have q := h.set hx v
  rw [Nat.mod_eq_of_lt hv] at q
  exact q
theorem R.regsLen {m : MS} {st : Sz36.St} (h : R m st) : m.regs.length = 16 := by rw [h.regs, ints_len, h.regsL]
def sp_put_with_vf (C : Addr) : Sp := fun vs H Q _ => ∃ p dx a m st, ∃ x v : Nat, ∃ z : Int, ∃ f : Bool, vs = [.ref p, .int x, .int z, .int ((f.toNat : Nat) : Int)] ∧ MAt C H p dx a m ∧ R m st ∧ x < 16 ∧ z % 256 = ((v % 256 : Nat) : Int) ∧ Nxt C p dx H a m (Sz36.flagged st x v f) Q .non
theorem ok_put_with_vf (T : Txt K mg A) : FnOk P w K mg base CX0 1 A.a_put_with_vf A.d_put_with_vf ["machine", "x", "value", "vf"] (sp_put_with_vf A.c_Machine) := by
  refine T.f_put_with_vf.ok sc_put_with_vf (fun vs H Q E h => ?_) (fun cdv A' outer s H vs Q E hr h => ?_)
  · obtain ⟨p, dx, a, m, st, x, v, z, f, rfl, _⟩ := h; rfl
  · obtain ⟨p, dx, a, m, st, x, v, z, f, rfl, M, hR, hx, hz, h⟩ := h
    refine ⟨_, (pss_cons (ps_asg (pe_op op_mod (pv 2) (pe_gint rfl T.g_BYTE_COUNT)) (pg_sub (pe_fld (pv 0) rfl) (pv 1) set_list)) (pss_one (ps_asg (pv 3) (pg_sub (pe_fld (pv 0) rfl) (pe_gint rfl T.g_VF) set_list)))), ?_⟩
    have fx := M.facts
    have tx := T.z_Machine
    walk_at "rd"
    have hl := hR.regsLen
    refine ⟨by decide, x, ixZ rfl (by rw [hl]; exact hx), ?_⟩
    rw [hz]
    have M1 := M.setRegs (m.regs.set x ((v % 256 : Nat) : Int))
    have hR1 := hR.set hx v
    have fx := M1.facts
    walk_at "rd"
    refine ⟨15, ixZ rfl (by rw [List.length_set, hl]; decide), ?_⟩
    have hR2 := hR1.setB (x := 15) (v := f.toNat) (by decide) (by cases f <;> decide)
    exact h _ a _ (.same (M.setRegs _) (Frm.set _ (by simp [MA.all]))) hR2 rfl
/-- a calculation: VX and VY are handed in -/
def sp_calc (C : Addr) (g : Sz36.St → Nat → Nat → Sz36.St) : Sp := fun vs H Q _ => ∃ p dx a m st, ∃ x y : Nat, vs = [.ref p, .int x, .int ((st.reg x : Nat) : Int), .int ((st.reg y : Nat) : Int)] ∧ MAt C H p dx a m ∧ R m st ∧ x < 16 ∧ Nxt C p dx H a m (g st x y) Q .non
theorem ok_put_y (T : Txt K mg A) : FnOk P w K mg base CX0 1 A.a_put_y A.d_put_y ["machine", "x", "vx", "vy"] (sp_calc A.c_Machine fun st x y => st.set x (st.reg y)) := by
  refine T.f_put_y.ok sc_put_y (fun vs H Q E h => ?_) (fun cdv A' outer s H vs Q E hr h => ?_)
  · obtain ⟨p, dx, a, m, st, x, y, rfl, _⟩ := h; rfl
  · obtain ⟨p, dx, a, m, st, x, y, rfl, M, hR, hx, h⟩ := h
    dsimp only at h
    refine ⟨_, (pss_one (ps_asg (pv 3) (pg_sub (pe_fld (pv 0) rfl) (pv 1) set_list))), ?_⟩
    have fx := M.facts
    have tx := T.z_Machine
    walk_at "rd"
    refine ⟨x, ixZ rfl (by rw [hR.regsLen]; exact hx), ?_⟩
    exact h _ a _ (.same (M.setRegs _) (Frm.set _ (by simp [MA.all]))) (hR.setB hx (regB hR y)) rfl
theorem ok_put_or (T : Txt K mg A) : FnOk P w K mg base CX0 1 A.a_put_or A.d_put_or ["machine", "x", "vx", "vy"] (sp_calc A.c_Machine fun st x y => st.set x (st.reg x ||| st.reg y)) := by
  refine T.f_put_or.ok sc_put_or (fun vs H Q E h => ?_) (fun cdv A' outer s H vs Q E hr h => ?_)
  · obtain ⟨p, dx, a, m, st, x, y, rfl, _⟩ := h; rfl
  · obtain ⟨p, dx, a, m, st, x, y, rfl, M, hR, hx, h⟩ := h
    dsimp only at h
    refine ⟨_, (pss_one (ps_asg (pe_op op_or (pv 2) (pv 3)) (pg_sub (pe_fld (pv 0) rfl) (pv 1) set_list))), ?_⟩
    have fx := M.facts
    have tx := T.z_Machine
    walk_at "rd"
    refine ⟨x, ixZ rfl (by rw [hR.regsLen]; exact hx), ?_⟩
    rw [bOr]
    exact h _ a _ (.same (M.setRegs _) (Frm.set _ (by simp [MA.all]))) (hR.setB hx (Nat.or_lt_two_pow (n := 8) (regB hR x) (regB hR y))) rfl
theorem ok_put_and (T : Txt K mg A) : FnOk P w K mg base CX0 1 A.a_put_and A.d_put_and ["machine", "x", "vx", "vy"] (sp_calc A.c_Machine fun st x y => st.set x (st.reg x &&& st.reg y)) := by
  refine T.f_put_and.ok sc_put_and (fun vs H Q E h => ?_) (fun cdv A' outer s H vs Q E hr h => ?_)
  · obtain ⟨p, dx, a, m, st, x, y, rfl, _⟩ := h; rfl
  · obtain ⟨p, dx, a, m, st, x, y, rfl, M, hR, hx, h⟩ := h
    dsimp only at h
    refine ⟨_, (pss_one (ps_asg (pe_op op_and (pv 2) (pv 3)) (pg_sub (pe_fld (pv 0) rfl) (pv 1) set_list))), ?_⟩
    have fx := M.facts
    have tx := T.z_Machine
    walk_at "rd"
    refine ⟨x, ixZ rfl (by rw [hR.regsLen]; exact hx), ?_⟩
    rw [bAnd]
    exact h _ a _ (.same (M.setRegs _) (Frm.set _ (by simp [MA.all]))) (hR.setB hx (Nat.lt_of_le_of_lt Nat.and_le_left (regB hR x))) rfl
theorem ok_put_exclusive_or (T : Txt K mg A) : FnOk P w K mg base CX0 1 A.a_put_exclusive_or A.d_put_exclusive_or ["machine", "x", "vx", "vy"] (sp_calc A.c_Machine fun st x y => st.set x (st.reg x ^^^ st.reg y)) := by
  refine T.f_put_exclusive_or.ok sc_put_exclusive_or (fun vs H Q E h => ?_) (fun cdv A' outer s H vs Q E hr h => ?_)
  · obtain ⟨p, dx, a, m, st, x, y, rfl, _⟩ := h; rfl
  · obtain ⟨p, dx, a, m, st, x, y, rfl, M, hR, hx, h⟩ := h
    dsimp only at h
    refine ⟨_, (pss_one (ps_asg (pe_op op_xor (pv 2) (pv 3)) (pg_sub (pe_fld (pv 0) rfl) (pv 1) set_list))), ?_⟩
    have fx := M.facts
    have tx := T.z_Machine
    walk_at "rd"
    refine ⟨x, ixZ rfl (by rw [hR.regsLen]; exact hx), ?_⟩
    rw [bXor]
    exact h _ a _ (.same (M.setRegs _) (Frm.set _ (by simp [MA.all]))) (hR.setB hx (Nat.xor_lt_two_pow (n := 8) (regB hR x) (regB hR y))) rfl
theorem ok_put_sum (T : Txt K mg A) : FnOk P w K mg base CX0 2 A.a_put_sum A.d_put_sum ["machine", "x", "vx", "vy"] (sp_calc A.c_Machine fun st x y => Sz36.flagged st x (st.reg x + st.reg y) (decide (256 ≤ st.reg x + st.reg y))) := by
  have G_put_with_vf : FnOk P w K mg base CX0 _ _ _ _ _ := ok_put_with_vf T
  refine T.f_put_sum.ok sc_put_sum (fun vs H Q E h => ?_) (fun cdv A' outer s H vs Q E hr h => ?_)
  · obtain ⟨p, dx, a, m, st, x, y, rfl, _⟩ := h; rfl
  · obtain ⟨p, dx, a, m, st, x, y, rfl, M, hR, hx, h⟩ := h
    dsimp only at h
    refine ⟨_, (pss_one (ps_expr (pe_call G_put_with_vf (hr.mono (by decide)) rfl T.g_put_with_vf T.f_put_with_vf.kp T.b_put_with_vf .nil pass0 (pa_cons (pv 0) (pa_cons (pv 1) (pa_cons (pe_op op_add (pv 2) (pv 3)) (pa_cons (pe_ifExp (pt_cmpR op_ge (pe_op op_add (pv 2) (pv 3)) (pe_gint rfl T.g_BYTE_COUNT) (nomark _)) pe_int pe_int) pa_nil))))))), ?_⟩
    have fx := M.facts
    have tx := T.z_Machine
    walk_at "rd"
    refine ite2 (fun e => ?_) fun e => ?_
    · rw [decide_eq_true (show 256 ≤ st.reg x + st.reg y by omega)] at h
      exact ⟨p, dx, a, m, st, x, st.reg x + st.reg y, _, true, rfl, M, hR, hx, by omega, h⟩
    · rw [decide_eq_false (show ¬ 256 ≤ st.reg x + st.reg y by omega)] at h
      exact ⟨p, dx, a, m, st, x, st.reg x + st.reg y, _, false, rfl, M, hR, hx, by omega, h⟩
theorem ok_put_x_less_y (T : Txt K mg A) : FnOk P w K mg base CX0 2 A.a_put_x_less_y A.d_put_x_less_y ["machine", "x", "vx", "vy"] (sp_calc A.c_Machine fun st x y => Sz36.flagged st x (st.reg x + 256 - st.reg y) (decide (st.reg y ≤ st.reg x))) := by
  have G_put_with_vf : FnOk P w K mg base CX0 _ _ _ _ _ := ok_put_with_vf T
  refine T.f_put_x_less_y.ok sc_put_x_less_y (fun vs H Q E h => ?_) (fun cdv A' outer s H vs Q E hr h => ?_)
  · obtain ⟨p, dx, a, m, st, x, y, rfl, _⟩ := h; rfl
  · obtain ⟨p, dx, a, m, st, x, y, rfl, M, hR, hx, h⟩ := h
    dsimp only at h
    refine ⟨_, (pss_one (ps_expr (pe_call G_put_with_vf (hr.mono (by decide)) rfl T.g_put_with_vf T.f_put_with_vf.kp T.b_put_with_vf .nil pass0 (pa_cons (pv 0) (pa_cons (pv 1) (pa_cons (pe_op op_sub (pv 2) (pv 3)) (pa_cons (pe_ifExp (pt_cmpR op_le (pv 3) (pv 2) (nomark _)) pe_int pe_int) pa_nil))))))), ?_⟩
    have fx := M.facts
    have tx := T.z_Machine
    have b1 := regB hR x
    have b2 := regB hR y
    walk_at "rd"
    refine ite2 (fun e => ?_) fun e => ?_
    · rw [decide_eq_true (show st.reg y ≤ st.reg x by omega)] at h
      exact ⟨p, dx, a, m, st, x, st.reg x + 256 - st.reg y, _, true, rfl, M, hR, hx, by omega, h⟩
    · rw [decide_eq_false (show ¬ st.reg y ≤ st.reg x by omega)] at h
      exact ⟨p, dx, a, m, st, x, st.reg x + 256 - st.reg y, _, false, rfl, M, hR, hx, by omega, h⟩
theorem ok_put_y_less_x (T : Txt K mg A) : FnOk P w K mg base CX0 2 A.a_put_y_less_x A.d_put_y_less_x ["machine", "x", "vx", "vy"] (sp_calc A.c_Machine fun st x y => Sz36.flagged st x (st.reg y + 256 - st.reg x) (decide (st.reg x ≤ st.reg y))) := by
  have G_put_with_vf : FnOk P w K mg base CX0 _ _ _ _ _ := ok_put_with_vf T
  refine T.f_put_y_less_x.ok sc_put_y_less_x (fun vs H Q E h => ?_) (fun cdv A' outer s H vs Q E hr h => ?_)
  · obtain ⟨p, dx, a, m, st, x, y, rfl, _⟩ := h; rfl
  · obtain ⟨p, dx, a, m, st, x, y, rfl, M, hR, hx, h⟩ := h
    dsimp only at h
    refine ⟨_, (pss_one (ps_expr (pe_call G_put_with_vf (hr.mono (by decide)) rfl T.g_put_with_vf T.f_put_with_vf.kp T.b_put_with_vf .nil pass0 (pa_cons (pv 0) (pa_cons (pv 1) (pa_cons (pe_op op_sub (pv 3) (pv 2)) (pa_cons (pe_ifExp (pt_cmpR op_le (pv 2) (pv 3) (nomark _)) pe_int pe_int) pa_nil))))))), ?_⟩
    have fx := M.facts
    have tx := T.z_Machine
    have b1 := regB hR x
    have b2 := regB hR y
    walk_at "rd"
    refine ite2 (fun e => ?_) fun e => ?_
    · rw [decide_eq_true (show st.reg x ≤ st.reg y by omega)] at h
      exact ⟨p, dx, a, m, st, x, st.reg y + 256 - st.reg x, _, true, rfl, M, hR, hx, by omega, h⟩
    · rw [decide_eq_false (show ¬ st.reg x ≤ st.reg y by omega)] at h
      exact ⟨p, dx, a, m, st, x, st.reg y + 256 - st.reg x, _, false, rfl, M, hR, hx, by omega, h⟩
theorem bit1 (n : Nat) : (n : Int) % 2 = (((n % 2 == 1).toNat : Nat) : Int) := by
  rcases Nat.mod_two_eq_zero_or_one n with e | e
  · rw [e]; show (n : Int) % 2 = 0; omega
  · rw [e]; show (n : Int) % 2 = 1; omega
theorem ok_put_half (T : Txt K mg A) : FnOk P w K mg base CX0 2 A.a_put_half A.d_put_half ["machine", "x", "vx", "vy"] (sp_calc A.c_Machine fun st x y => Sz36.flagged st x (st.reg x / 2) (st.reg x % 2 == 1)) := by
  have G_put_with_vf : FnOk P w K mg base CX0 _ _ _ _ _ := ok_put_with_vf T
  refine T.f_put_half.ok sc_put_half (fun vs H Q E h => ?_) (fun cdv A' outer s H vs Q E hr h => ?_)
  · obtain ⟨p, dx, a, m, st, x, y, rfl, _⟩ := h; rfl
  · obtain ⟨p, dx, a, m, st, x, y, rfl, M, hR, hx, h⟩ := h
    dsimp only at h
    refine ⟨_, (pss_one (ps_expr (pe_call G_put_with_vf (hr.mono (by decide)) rfl T.g_put_with_vf T.f_put_with_vf.kp T.b_put_with_vf .nil pass0 (pa_cons (pv 0) (pa_cons (pv 1) (pa_cons (pe_op op_fdiv (pv 2) pe_int) (pa_cons (pe_op op_mod (pv 2) pe_int) pa_nil))))))), ?_⟩
    have fx := M.facts
    have tx := T.z_Machine
    walk_at "rd"
    refine ⟨⟨by decide, by decide⟩, by decide, ?_⟩
    rw [bit1]
    exact ⟨p, dx, a, m, st, x, st.reg x / 2, _, _, rfl, M, hR, hx, by omega, h⟩
theorem bit7 {n : Nat} (hn : n < 256) : (n : Int) / 128 = (((decide (128 ≤ n)).toNat : Nat) : Int) := by
  by_cases e : 128 ≤ n
  · rw [decide_eq_true e]; show (n : Int) / 128 = 1; omega
  · rw [decide_eq_false e]; show (n : Int) / 128 = 0; omega
theorem ok_put_double (T : Txt K mg A) : FnOk P w K mg base CX0 2 A.a_put_double A.d_put_double ["machine", "x", "vx", "vy"] (sp_calc A.c_Machine fun st x y => Sz36.flagged st x (2 * st.reg x) (decide (128 ≤ st.reg x))) := by
  have G_put_with_vf : FnOk P w K mg base CX0 _ _ _ _ _ := ok_put_with_vf T
  refine T.f_put_double.ok sc_put_double (fun vs H Q E h => ?_) (fun cdv A' outer s H vs Q E hr h => ?_)
  · obtain ⟨p, dx, a, m, st, x, y, rfl, _⟩ := h; rfl
  · obtain ⟨p, dx, a, m, st, x, y, rfl, M, hR, hx, h⟩ := h
    dsimp only at h
    refine ⟨_, (pss_one (ps_expr (pe_call G_put_with_vf (hr.mono (by decide)) rfl T.g_put_with_vf T.f_put_with_vf.kp T.b_put_with_vf .nil pass0 (pa_cons (pv 0) (pa_cons (pv 1) (pa_cons (pe_op op_mul pe_int (pv 2)) (pa_cons (pe_op op_fdiv (pv 2) pe_int) pa_nil))))))), ?_⟩
    have fx := M.facts
    have tx := T.z_Machine
    walk_at "rd"
    refine ⟨.inl ⟨by decide, by decide⟩, ⟨by decide, by decide⟩, ?_⟩
    rw [bit7 (regB hR x)]
    exact ⟨p, dx, a, m, st, x, 2 * st.reg x, _, _, rfl, M, hR, hx, by omega, h⟩
/-- 8XYN -/
def act8 (m : Sz36.St) (x y n : Nat) : Sz36.May :=
  let vx := m.reg x
  let vy := m.reg y
  match n with
    | 0 => .ok (m.set x vy)
    | 1 => .ok (m.set x (vx ||| vy))
    | 2 => .ok (m.set x (vx &&& vy))
    | 3 => .ok (m.set x (vx ^^^ vy))
    | 4 => .ok (Sz36.flagged m x (vx + vy) (decide (256 ≤ vx + vy)))
    | 5 => .ok (Sz36.flagged m x (vx + 256 - vy) (decide (vy ≤ vx)))
    | 6 => .ok (Sz36.flagged m x (vx / 2) (vx % 2 == 1))
    | 7 => .ok (Sz36.flagged m x (vy + 256 - vx) (decide (vx ≤ vy)))
    | 14 => .ok (Sz36.flagged m x (2 * vx) (decide (128 ≤ vx)))
    | _ => .error 1
def sp_calculate (C : Addr) : Sp := fun vs H Q _ => ∃ p dx a m st, ∃ x y n : Nat, vs = [.ref p, .int x, .int y, .int n] ∧ MAt C H p dx a m ∧ R m st ∧ x < 16 ∧ y < 16 ∧ n < 16 ∧ Out C p dx H a m (act8 st x y n) Q
theorem ok_calculate (T : Txt K mg A) : FnOk P w K mg base CX0 3 A.a_calculate A.d_calculate ["machine", "x", "y", "n"] (sp_calculate A.c_Machine) := by
  refine T.f_calculate.ok sc_calculate (fun vs H Q E h => ?_) (fun cdv A' outer s H vs Q E hr h => ?_)
  · obtain ⟨p, dx, a, m, st, x, y, n, rfl, _⟩ := h; rfl
  · obtain ⟨p, dx, a, m, st, x, y, n, rfl, M, hR, hx, hy, hn, h⟩ := h
    refine ⟨_, (pss_cons (ps_if (pt_cmpR op_notInK (pv 3) (pe_gref rfl T.g_CALCULATIONS) (by with_unfolding_all rfl)) (pss_one (ps_ret (pe_gint rfl T.g_UNKNOWN))) pss_nil) (pss_cons (ps_expr (pe_callV (k := 2) (pe_ixK (pe_gref rfl T.g_CALCULATIONS) (pv 3) (fun _ _ => rfl)) (hr.mono (by decide)) (pa_cons (pv 0) (pa_cons (pv 1) (pa_cons (pe_ix ix_list (pe_fld (pv 0) rfl) (pv 1) (fun _ _ => rfl)) (pa_cons (pe_ix ix_list (pe_fld (pv 0) rfl) (pv 2) (fun _ _ => rfl)) pa_nil)))))) (pss_one (ps_ret (pe_gint rfl T.g_GOES_ON))))), ?_⟩
    have fx := M.facts
    have tx := T.z_Machine
    have hc : (∃ f fd g, FnOk P w K mg base CX0 2 f fd ["machine", "x", "vx", "vy"] (sp_calc A.c_Machine g) ∧ PySem.W.keepIn K (.ref f) = true ∧ Binds K fd ["machine", "x", "vx", "vy"] [] ∧ fnd [((0 : Int), A.a_put_y), ((1 : Int), A.a_put_or), ((2 : Int), A.a_put_and), ((3 : Int), A.a_put_exclusive_or), ((4 : Int), A.a_put_sum), ((5 : Int), A.a_put_x_less_y), ((6 : Int), A.a_put_half), ((7 : Int), A.a_put_y_less_x), ((14 : Int), A.a_put_double)] (n : Int) = some f ∧ act8 st x y n = .ok (g st x y)) ∨ (fnd [((0 : Int), A.a_put_y), ((1 : Int), A.a_put_or), ((2 : Int), A.a_put_and), ((3 : Int), A.a_put_exclusive_or), ((4 : Int), A.a_put_sum), ((5 : Int), A.a_put_x_less_y), ((6 : Int), A.a_put_half), ((7 : Int), A.a_put_y_less_x), ((14 : Int), A.a_put_double)] (n : Int) = none ∧ act8 st x y n = .error 1) := by
      rcases (show n = 0 ∨ n = 1 ∨ n = 2 ∨ n = 3 ∨ n = 4 ∨ n = 5 ∨ n = 6 ∨ n = 7 ∨ n = 8 ∨ n = 9 ∨ n = 10 ∨ n = 11 ∨ n = 12 ∨ n = 13 ∨ n = 14 ∨ n = 15 by omega) with e | e | e | e | e | e | e | e | e | e | e | e | e | e | e | e <;> subst e
      · exact .inl ⟨_, _, _, (ok_put_y T).mono (by decide), T.f_put_y.kp, T.b_put_y, rfl, rfl⟩
      · exact .inl ⟨_, _, _, (ok_put_or T).mono (by decide), T.f_put_or.kp, T.b_put_or, rfl, rfl⟩
      · exact .inl ⟨_, _, _, (ok_put_and T).mono (by decide), T.f_put_and.kp, T.b_put_and, rfl, rfl⟩
      · exact .inl ⟨_, _, _, (ok_put_exclusive_or T).mono (by decide), T.f_put_exclusive_or.kp, T.b_put_exclusive_or, rfl, rfl⟩
      · exact .inl ⟨_, _, _, (ok_put_sum T).mono (by decide), T.f_put_sum.kp, T.b_put_sum, rfl, rfl⟩
      · exact .inl ⟨_, _, _, (ok_put_x_less_y T).mono (by decide), T.f_put_x_less_y.kp, T.b_put_x_less_y, rfl, rfl⟩
      · exact .inl ⟨_, _, _, (ok_put_half T).mono (by decide), T.f_put_half.kp, T.b_put_half, rfl, rfl⟩
      · exact .inl ⟨_, _, _, (ok_put_y_less_x T).mono (by decide), T.f_put_y_less_x.kp, T.b_put_y_less_x, rfl, rfl⟩
      all_goals first | exact .inr ⟨rfl, rfl⟩ | exact .inl ⟨_, _, _, (ok_put_double T).mono (by decide), T.f_put_double.kp, T.b_put_double, rfl, rfl⟩
    walk_at "rd"
    refine ⟨_, T.t_CALCULATIONS, ?_⟩
    rcases hc with ⟨f, fd, g, F, kp, bb, hf, hact⟩ | ⟨hf, hact⟩
    · rw [hf]
      have h := h.ok hact
      exact iteF ⟨_, T.t_CALCULATIONS, _, hf, _, _, _, F, kp, bb, _, SqL.of M.regs, _, atI_ints (hR.reg hx), _, SqL.of M.regs, _, atI_ints (hR.reg hy), p, dx, a, m, st, x, y, rfl, M, hR, hx, fun H' a' m' g' r e => h H' a' m' g' r e⟩
    · rw [hf]
      exact iteT (h.stop hact H (by decide) (.refl M))
end
end Sg
end
section
set_option Elab.async false
set_option linter.all false
set_option maxRecDepth 100000
set_option maxHeartbeats 2000000
set_option hygiene false
namespace Sg
open PySem PySem.Spec PyProof.Rows L2
local macro_rules | `(tactic| walk_at "rd") => `(tactic| simp only [tRet, tRetN, tIf, tIfS, tTest, tOp, tUn, tVar, tC, tSeq, tAsg, gName, tDrop, tNext, tFld, sFld, sFldAug, tCall, tMeth, tCB, tCons, tNil, tLst, tTup, tAnd, tOr, tNot, tAndV, tOrV, tNotV, tSl, tPart, tNoPart, rU, rI, rI0, rEq, rNe, rAdd, rSub, rIxL, rSetL, gSub, start_def, scal_ii, scal_bb, cxOf_K, List.map_cons, List.map_nil, List.cons_append, List.nil_append, List.append_nil, List.length_cons, List.length_nil, Nat.reduceAdd, Nat.reduceSub, List.replicate_succ, List.replicate_zero, List.getElem?_cons_zero, List.getElem?_cons_succ, List.set_cons_zero, List.set_cons_succ, Option.some.injEq, V.int.injEq, V.ref.injEq, V.bl.injEq, HO.ins.injEq, HO.lst.injEq, exists_eq_left, exists_eq_left', exists_and_left, and_assoc, true_and, and_true, decide_eq_true_eq, mf_len, lk_numbers, lk_place, lk_take, pt_place, rf_len, lk_mem, lk_regs, lk_aside, lk_i, lk_pc, lk_places, lk_wait, lk_sound, lk_pressed, lk_chance, lk_large, lk_rows, lk_why, pt_why, pt_mem, pt_rows, tIxK, tCallV, pt_i, pt_pc, pt_wait, pt_sound, pt_chance, pt_large, upd_same, upd_upd, List.cons.injEq, ite_true, ite_false, eq_self, Int.reduceEq, Int.reduceNeg, decide_true, decide_false, reduceCtorEq, if_true, if_false, Bool.not_eq_true, Bool.not_true, Bool.not_false, Bool.true_eq_false, Bool.false_eq_true, ← List.map_set, List.length_map, ipI, ipC, tAug, tAugS, rGetL, rAppend, rExtend, rPop, rCat, rRep, gCons, gNil,  rSlL, truV_bl, truV_int, fx, tx])
local macro_rules | `(tactic| walk_at "nx") => `(tactic| try simp only [tSeq, tAsg, tIfS, tTest, tOp, rEq, rNe, tVar, tC, tNext, gName, tRet, tCall, tCons, tNil, scal_ii, start_def, List.map_cons, List.map_nil, List.cons_append, List.nil_append, List.append_nil, List.length_cons, List.length_nil, Nat.reduceAdd, Nat.reduceSub, List.replicate_succ, List.replicate_zero, List.getElem?_cons_zero, List.getElem?_cons_succ, List.set_cons_zero, List.set_cons_succ, Option.some.injEq, V.ref.injEq, V.int.injEq, V.bl.injEq, exists_eq_left', exists_eq_left, exists_and_left, true_and, and_true, and_assoc, ite_true, ite_false, eq_self, Int.reduceEq, Int.reduceNeg, decide_true, decide_false, decide_eq_true_eq, reduceCtorEq, Bool.false_eq_true, if_true, if_false, ↓reduceIte, cxOf_K])
local macro_rules | `(tactic| walk_at "me") => `(tactic| simp only [tMeth, tVar, tNil, List.getElem?_cons_zero, List.getElem?_cons_succ, Option.some.injEq, V.ref.injEq, exists_eq_left', exists_eq_left, fx, HO.ins.injEq, exists_and_left, true_and, and_assoc, lk_take, lk_take_row, List.append_nil, List.nil_append])
section
variable {P : Program} {w : World} {K : PySem.W.Frag} {mg : Str → Option Value} {base : Heap} {A : Ad}
/-- FXNN: X is handed in -/
def sp_tr (C : Addr) (g : Sz36.St → Nat → Sz36.May) : Sp := fun vs H Q _ => ∃ p dx a m st, ∃ x : Nat, vs = [.ref p, .int x] ∧ MAt C H p dx a m ∧ R m st ∧ x < 16 ∧ Out C p dx H a m (g st x) Q
theorem ok_take_wait (T : Txt K mg A) : FnOk P w K mg base CX0 1 A.a_take_wait A.d_take_wait ["machine", "x"] (sp_tr A.c_Machine fun st x => .ok (st.set x st.wait)) := by
  refine T.f_take_wait.ok sc_take_wait (fun vs H Q E h => ?_) (fun cdv A' outer s H vs Q E hr h => ?_)
  · obtain ⟨p, dx, a, m, st, x, rfl, _⟩ := h; rfl
  · obtain ⟨p, dx, a, m, st, x, rfl, M, hR, hx, h⟩ := h
    have h := h.ok rfl
    refine ⟨_, (pss_cons (ps_asg (pe_fld (pv 0) rfl) (pg_sub (pe_fld (pv 0) rfl) (pv 1) set_list)) (pss_one (ps_ret (pe_gint rfl T.g_GOES_ON)))), ?_⟩
    have fx := M.facts
    have tx := T.z_Machine
    walk_at "rd"
    refine ⟨x, ixZ rfl (by rw [hR.regsLen]; exact hx), ?_⟩
    rw [hR.wait]
    exact h _ a _ (.same (M.setRegs _) (Frm.set _ (by simp [MA.all]))) (hR.setB hx hR.waitB) rfl
theorem ok_set_wait (T : Txt K mg A) : FnOk P w K mg base CX0 1 A.a_set_wait A.d_set_wait ["machine", "x"] (sp_tr A.c_Machine fun st x => .ok { st with wait := st.reg x }) := by
  refine T.f_set_wait.ok sc_set_wait (fun vs H Q E h => ?_) (fun cdv A' outer s H vs Q E hr h => ?_)
  · obtain ⟨p, dx, a, m, st, x, rfl, _⟩ := h; rfl
  · obtain ⟨p, dx, a, m, st, x, rfl, M, hR, hx, h⟩ := h
    have h := h.ok rfl
    refine ⟨_, (pss_cons (ps_fld (pv 0) (pe_ix ix_list (pe_fld (pv 0) rfl) (pv 1) (fun _ _ => rfl)) rfl) (pss_one (ps_ret (pe_gint rfl T.g_GOES_ON)))), ?_⟩
    have fx := M.facts
    have tx := T.z_Machine
    walk_at "rd"
    refine ⟨_, SqL.of M.regs, _, atI_ints (hR.reg hx), ?_⟩
    rw [pt_wait]
    exact h _ a _ (.same (MAt.put M _ (by exact ⟨rfl, rfl, rfl, rfl, rfl, rfl⟩)) (Frm.put H _)) (hR.setWait (regB hR x)) rfl
theorem ok_set_sound (T : Txt K mg A) : FnOk P w K mg base CX0 1 A.a_set_sound A.d_set_sound ["machine", "x"] (sp_tr A.c_Machine fun st x => .ok { st with sound := st.reg x }) := by
  refine T.f_set_sound.ok sc_set_sound (fun vs H Q E h => ?_) (fun cdv A' outer s H vs Q E hr h => ?_)
  · obtain ⟨p, dx, a, m, st, x, rfl, _⟩ := h; rfl
  · obtain ⟨p, dx, a, m, st, x, rfl, M, hR, hx, h⟩ := h
    have h := h.ok rfl
    refine ⟨_, (pss_cons (ps_fld (pv 0) (pe_ix ix_list (pe_fld (pv 0) rfl) (pv 1) (fun _ _ => rfl)) rfl) (pss_one (ps_ret (pe_gint rfl T.g_GOES_ON)))), ?_⟩
    have fx := M.facts
    have tx := T.z_Machine
    walk_at "rd"
    refine ⟨_, SqL.of M.regs, _, atI_ints (hR.reg hx), ?_⟩
    rw [pt_sound]
    exact h _ a _ (.same (MAt.put M _ (by exact ⟨rfl, rfl, rfl, rfl, rfl, rfl⟩)) (Frm.put H _)) (hR.setSound (regB hR x)) rfl
theorem ok_move_i_on (T : Txt K mg A) : FnOk P w K mg base CX0 1 A.a_move_i_on A.d_move_i_on ["machine", "x"] (sp_tr A.c_Machine fun st x => .ok { st with i := (st.i + st.reg x) % 65536 }) := by
  refine T.f_move_i_on.ok sc_move_i_on (fun vs H Q E h => ?_) (fun cdv A' outer s H vs Q E hr h => ?_)
  · obtain ⟨p, dx, a, m, st, x, rfl, _⟩ := h; rfl
  · obtain ⟨p, dx, a, m, st, x, rfl, M, hR, hx, h⟩ := h
    have h := h.ok rfl
    refine ⟨_, (pss_cons (ps_fld (pv 0) (pe_op op_mod (pe_op op_add (pe_fld (pv 0) rfl) (pe_ix ix_list (pe_fld (pv 0) rfl) (pv 1) (fun _ _ => rfl))) (pe_gint rfl T.g_WORD_COUNT)) rfl) (pss_one (ps_ret (pe_gint rfl T.g_GOES_ON)))), ?_⟩
    have fx := M.facts
    have tx := T.z_Machine
    walk_at "rd"
    refine ⟨_, SqL.of M.regs, _, atI_ints (hR.reg hx), _, rfl, by decide, ?_⟩
    have e : (m.i + ((st.reg x : Nat) : Int)) % 65536 = (((st.i + st.reg x) % 65536 : Nat) : Int) := by rw [hR.i]; omega
    rw [e]
    exact h _ a _ (.same (MAt.put M _ (by exact ⟨rfl, rfl, rfl, rfl, rfl, rfl⟩)) (Frm.put H _)) (hR.setI (Nat.mod_lt _ (by decide))) rfl
theorem ok_point_at_digit (T : Txt K mg A) : FnOk P w K mg base CX0 1 A.a_point_at_digit A.d_point_at_digit ["machine", "x"] (sp_tr A.c_Machine fun st x => .ok { st with i := 5 * (st.reg x % 16) }) := by
  refine T.f_point_at_digit.ok sc_point_at_digit (fun vs H Q E h => ?_) (fun cdv A' outer s H vs Q E hr h => ?_)
  · obtain ⟨p, dx, a, m, st, x, rfl, _⟩ := h; rfl
  · obtain ⟨p, dx, a, m, st, x, rfl, M, hR, hx, h⟩ := h
    have h := h.ok rfl
    refine ⟨_, (pss_cons (ps_fld (pv 0) (pe_op op_mul (pe_gint rfl T.g_DIGIT_BYTES) (pe_op op_mod (pe_ix ix_list (pe_fld (pv 0) rfl) (pv 1) (fun _ _ => rfl)) pe_int)) rfl) (pss_one (ps_ret (pe_gint rfl T.g_GOES_ON)))), ?_⟩
    have fx := M.facts
    have tx := T.z_Machine
    walk_at "rd"
    refine ⟨_, SqL.of M.regs, _, atI_ints (hR.reg hx), _, rfl, by decide, .inl ⟨by decide, by decide⟩, ?_⟩
    have e : 5 * (((st.reg x : Nat) : Int) % 16) = ((5 * (st.reg x % 16) : Nat) : Int) := by omega
    rw [e]
    exact h _ a _ (.same (MAt.put M _ (by exact ⟨rfl, rfl, rfl, rfl, rfl, rfl⟩)) (Frm.put H _)) (hR.setI (by omega)) rfl
theorem ok_point_at_large_digit (T : Txt K mg A) : FnOk P w K mg base CX0 1 A.a_point_at_large_digit A.d_point_at_large_digit ["machine", "x"] (sp_tr A.c_Machine fun st x => .ok { st with i := 80 + 10 * (st.reg x % 16) }) := by
  refine T.f_point_at_large_digit.ok sc_point_at_large_digit (fun vs H Q E h => ?_) (fun cdv A' outer s H vs Q E hr h => ?_)
  · obtain ⟨p, dx, a, m, st, x, rfl, _⟩ := h; rfl
  · obtain ⟨p, dx, a, m, st, x, rfl, M, hR, hx, h⟩ := h
    have h := h.ok rfl
    refine ⟨_, (pss_cons (ps_fld (pv 0) (pe_op op_add (pe_gint rfl T.g_LARGE_DIGITS_AT) (pe_op op_mul (pe_gint rfl T.g_LARGE_DIGIT_BYTES) (pe_op op_mod (pe_ix ix_list (pe_fld (pv 0) rfl) (pv 1) (fun _ _ => rfl)) pe_int))) rfl) (pss_one (ps_ret (pe_gint rfl T.g_GOES_ON)))), ?_⟩
    have fx := M.facts
    have tx := T.z_Machine
    walk_at "rd"
    refine ⟨_, SqL.of M.regs, _, atI_ints (hR.reg hx), _, rfl, by decide, .inl ⟨by decide, by decide⟩, ?_⟩
    have e : 80 + 10 * (((st.reg x : Nat) : Int) % 16) = ((80 + 10 * (st.reg x % 16) : Nat) : Int) := by omega
    rw [e]
    exact h _ a _ (.same (MAt.put M _ (by exact ⟨rfl, rfl, rfl, rfl, rfl, rfl⟩)) (Frm.put H _)) (hR.setI (by omega)) rfl
theorem ok_take_key (T : Txt K mg A) : FnOk P w K mg base CX0 1 A.a_take_key A.d_take_key ["machine", "x"] (sp_tr A.c_Machine fun st x => match Sz36.pressed st with | some k => .ok (st.set x k) | none => .error 2) := by
  refine T.f_take_key.ok sc_take_key (fun vs H Q E h => ?_) (fun cdv A' outer s H vs Q E hr h => ?_)
  · obtain ⟨p, dx, a, m, st, x, rfl, _⟩ := h; rfl
  · obtain ⟨p, dx, a, m, st, x, rfl, M, hR, hx, h⟩ := h
    refine ⟨_, (pss_cons (ps_for PassesOwn.never rfl (pi_range1 rfl T.n_range (pa_cons (pe_gint rfl T.g_KEY_COUNT) pa_nil)) (pg_name (i := 2) sc_take_key.nd rfl (Or.inl rfl)) (pss_one (ps_if (pt_cmpR op_eq (pe_ix ix_list (pe_fld (pv 0) rfl) (pv 2) (fun _ _ => rfl)) pe_int (nomark _)) (pss_cons (ps_asg (pv 2) (pg_sub (pe_fld (pv 0) rfl) (pv 1) set_list)) (pss_one (ps_ret (pe_gint rfl T.g_GOES_ON)))) pss_nil))) (pss_one (ps_ret (pe_gint rfl T.g_NO_KEY)))), ?_⟩
    have fx := M.facts
    have tx := T.z_Machine
    refine ⟨16, rfl, by decide, by decide, for_range (n := 16) (fun i σ H' => ∃ v, σ = [some (.ref p), some (.int x), v] ∧ H' = H ∧ ∀ j, j < i → st.keys j = false) ⟨none, rfl, rfl, fun j hj => absurd hj (Nat.not_lt_zero _)⟩ ?_ ?_⟩
    · rintro i σ H' hi ⟨v, rfl, rfl, hk⟩
      walk_at "rd"
      refine ⟨_, SqL.of M.pressed, _, atZ (j := i) (by omega) (hR.keyAt hi), ?_⟩
      by_cases hd : st.keys i = true
      · rw [if_pos hd]
        refine ⟨rfl, ?_⟩
        rw [if_pos rfl]
        refine ⟨x, ixZ rfl (by rw [hR.regsLen]; exact hx), ?_⟩
        have e : Sz36.pressed st = some i := find_range hi hd hk
        dsimp only at h
        rw [e] at h
        have h := h.ok rfl
        rw [Int.zero_add]
        exact h _ a _ (.same (M.setRegs _) (Frm.set _ (by simp [MA.all]))) (hR.setB hx (by omega)) rfl
      · rw [if_neg hd]
        refine ⟨rfl, ?_⟩
        rw [if_neg (fun q => absurd (V.int.inj q) (by decide))]
        intro j hj
        by_cases e : j = i
        · subst e; simpa using hd
        · exact hk j (by omega)
    · rintro σ H' ⟨v, rfl, rfl, hk⟩
      have e : Sz36.pressed st = none := by
        unfold Sz36.pressed
        rw [List.find?_eq_none]
        intro k hk2
        rw [hk k (List.mem_range.mp hk2)]
        exact Bool.false_ne_true
      dsimp only at h
      rw [e] at h
      walk_at "rd"
      exact h.stop rfl H' (by decide) (.refl M)
theorem ok_write_registers (T : Txt K mg A) : FnOk P w K mg base CX0 1 A.a_write_registers A.d_write_registers ["machine", "x"] (sp_tr A.c_Machine fun st x => .ok (Sz36.kept st x)) := by
  refine T.f_write_registers.ok sc_write_registers (fun vs H Q E h => ?_) (fun cdv A' outer s H vs Q E hr h => ?_)
  · obtain ⟨p, dx, a, m, st, x, rfl, _⟩ := h; rfl
  · obtain ⟨p, dx, a, m, st, x, rfl, M, hR, hx, h⟩ := h
    have h := h.ok rfl
    refine ⟨_, (pss_cons (ps_for PassesOwn.never rfl (pi_range1 rfl T.n_range (pa_cons (pe_op op_add (pv 1) pe_int) pa_nil)) (pg_name (i := 2) sc_write_registers.nd rfl (Or.inl rfl)) (pss_one (ps_asg (pe_ix ix_list (pe_fld (pv 0) rfl) (pv 2) (fun _ _ => rfl)) (pg_sub (pe_fld (pv 0) rfl) (pe_op op_mod (pe_op op_add (pe_fld (pv 0) rfl) (pv 2)) (pe_gint rfl T.g_MEMORY_SIZE)) set_list)))) (pss_one (ps_ret (pe_gint rfl T.g_GOES_ON)))), ?_⟩
    have fx := M.facts
    have tx := T.z_Machine
    refine ⟨_, rfl, _, _, rfl, rfl, _, rfl, by omega, by omega, ?_⟩
    rw [show ((x : Int) + 1).toNat = x + 1 by omega]
    refine for_range (n := x + 1) (fun i σ H' => ∃ v m', σ = [some (.ref p), some (.int x), v] ∧ MAt A.c_Machine H' p dx a m' ∧ Frm H H' p a ∧ R m' (putN (fun j => st.reg j) st i) ∧ m'.why = m.why) ⟨none, m, rfl, M, Frm.refl _ _ _, hR, rfl⟩ ?_ ?_
    · rintro i σ H' hi ⟨v, m', rfl, M', F', hR', hw⟩
      have fx := M'.facts
      walk_at "rd"
      have hr : m'.regs[i]? = some ((st.reg i : Nat) : Int) := by
        rw [hR'.reg (by omega), reg_of_v (putN_v _ st i)]
      have hi2 : m'.i = st.i := by rw [hR'.i, putN_i]
      refine ⟨_, SqL.of M'.regs, _, atZ (j := i) (by omega) hr, ?_⟩
      refine ⟨by decide, (st.i + i) % 4096, ixZ (by rw [hi2]; omega) (by rw [hR'.memLen]; exact Nat.mod_lt _ (by decide)), { m' with mem := m'.mem.set ((st.i + i) % 4096) ((st.reg i : Nat) : Int) }, by rw [← List.map_set]; exact M'.setMem _, F'.trans (Frm.set _ (by simp [MA.all])), ?_, hw⟩
      rw [putN_succ]
      exact hR'.putB (st.i + i) (regB hR i)
    · rintro σ H' ⟨v, m', rfl, M', F', hR', hw⟩
      have fx := M'.facts
      walk_at "rd"
      exact h H' a m' (.same M' F') hR' hw
theorem ok_read_registers (T : Txt K mg A) : FnOk P w K mg base CX0 1 A.a_read_registers A.d_read_registers ["machine", "x"] (sp_tr A.c_Machine fun st x => .ok (Sz36.taken st x)) := by
  refine T.f_read_registers.ok sc_read_registers (fun vs H Q E h => ?_) (fun cdv A' outer s H vs Q E hr h => ?_)
  · obtain ⟨p, dx, a, m, st, x, rfl, _⟩ := h; rfl
  · obtain ⟨p, dx, a, m, st, x, rfl, M, hR, hx, h⟩ := h
    have h := h.ok rfl
    refine ⟨_, (pss_cons (ps_for PassesOwn.never rfl (pi_range1 rfl T.n_range (pa_cons (pe_op op_add (pv 1) pe_int) pa_nil)) (pg_name (i := 2) sc_read_registers.nd rfl (Or.inl rfl)) (pss_one (ps_asg (pe_ix ix_list (pe_fld (pv 0) rfl) (pe_op op_mod (pe_op op_add (pe_fld (pv 0) rfl) (pv 2)) (pe_gint rfl T.g_MEMORY_SIZE)) (fun _ _ => rfl)) (pg_sub (pe_fld (pv 0) rfl) (pv 2) set_list)))) (pss_one (ps_ret (pe_gint rfl T.g_GOES_ON)))), ?_⟩
    have fx := M.facts
    have tx := T.z_Machine
    refine ⟨_, rfl, _, _, rfl, rfl, _, rfl, by omega, by omega, ?_⟩
    rw [show ((x : Int) + 1).toNat = x + 1 by omega]
    refine for_range (n := x + 1) (fun i σ H' => ∃ v m', σ = [some (.ref p), some (.int x), v] ∧ MAt A.c_Machine H' p dx a m' ∧ Frm H H' p a ∧ R m' (setN (fun j => st.get (st.i + j)) st i) ∧ m'.why = m.why) ⟨none, m, rfl, M, Frm.refl _ _ _, hR, rfl⟩ ?_ ?_
    · rintro i σ H' hi ⟨v, m', rfl, M', F', hR', hw⟩
      have fx := M'.facts
      walk_at "rd"
      have hi2 : m'.i = st.i := by rw [hR'.i, setN_i]
      have hr : m'.mem[(st.i + i) % 4096]? = some ((st.get (st.i + i) : Nat) : Int) := by
        rw [hR'.memAt, get_of_mem (setN_mem _ st i)]
      refine ⟨by decide, _, SqL.of M'.mem, _, atZ (j := (st.i + i) % 4096) (by rw [hi2]; omega) hr, ?_⟩
      refine ⟨i, ixZ (by omega) (by rw [hR'.regsLen]; omega), { m' with regs := m'.regs.set i ((st.get (st.i + i) : Nat) : Int) }, by rw [← List.map_set]; exact M'.setRegs _, F'.trans (Frm.set _ (by simp [MA.all])), ?_, hw⟩
      rw [setN_succ]
      exact hR'.setB (x := i) (by omega) (getB hR _)
    · rintro σ H' ⟨v, m', rfl, M', F', hR', hw⟩
      have fx := M'.facts
      walk_at "rd"
      exact h H' a m' (.same M' F') hR' hw
theorem ok_take_from_aside (T : Txt K mg A) : FnOk P w K mg base CX0 1 A.a_take_from_aside A.d_take_from_aside ["machine", "x"] (sp_tr A.c_Machine fun st x => if x < 8 then .ok ((List.range (x + 1)).foldl (fun k j => k.set j (st.aside.getD j 0)) st) else .error 1) := by
  refine T.f_take_from_aside.ok sc_take_from_aside (fun vs H Q E h => ?_) (fun cdv A' outer s H vs Q E hr h => ?_)
  · obtain ⟨p, dx, a, m, st, x, rfl, _⟩ := h; rfl
  · obtain ⟨p, dx, a, m, st, x, rfl, M, hR, hx, h⟩ := h
    refine ⟨_, (pss_cons (ps_if (pt_cmpR op_ge (pv 1) (pe_gint rfl T.g_ASIDE_COUNT) (nomark _)) (pss_one (ps_ret (pe_gint rfl T.g_UNKNOWN))) pss_nil) (pss_cons (ps_for PassesOwn.never rfl (pi_range1 rfl T.n_range (pa_cons (pe_op op_add (pv 1) pe_int) pa_nil)) (pg_name (i := 2) sc_take_from_aside.nd rfl (Or.inl rfl)) (pss_one (ps_asg (pe_ix ix_list (pe_fld (pv 0) rfl) (pv 2) (fun _ _ => rfl)) (pg_sub (pe_fld (pv 0) rfl) (pv 2) set_list)))) (pss_one (ps_ret (pe_gint rfl T.g_GOES_ON))))), ?_⟩
    have fx := M.facts
    have tx := T.z_Machine
    walk_at "nx"
    refine ⟨_, _, rfl, rfl, _, rfl, ite2 (fun e => ?_) fun e => ?_⟩
    · rw [decide_eq_true_eq] at e
      exact h.stop (if_neg (by omega)) H (by decide) (.refl M)
    · rw [decide_eq_true_eq] at e
      have h := h.ok (if_pos (by omega))
      refine ⟨_, rfl, _, _, rfl, rfl, _, rfl, by omega, by omega, ?_⟩
      rw [show ((x : Int) + 1).toNat = x + 1 by omega]
      refine for_range (n := x + 1) (fun i σ H' => ∃ v m', σ = [some (.ref p), some (.int x), v] ∧ MAt A.c_Machine H' p dx a m' ∧ Frm H H' p a ∧ R m' (setN (fun j => st.aside.getD j 0) st i) ∧ m'.why = m.why) ⟨none, m, rfl, M, Frm.refl _ _ _, hR, rfl⟩ ?_ ?_
      · rintro i σ H' hi ⟨v, m', rfl, M', F', hR', hw⟩
        have fx := M'.facts
        walk_at "rd"
        have hr : m'.aside[i]? = some ((st.aside.getD i 0 : Nat) : Int) := by
          rw [hR'.asideAt (by omega), setN_aside]
        refine ⟨_, SqL.of M'.aside, _, atZ (j := i) (by omega) hr, ?_⟩
        refine ⟨i, ixZ (by omega) (by rw [hR'.regsLen]; omega), { m' with regs := m'.regs.set i ((st.aside.getD i 0 : Nat) : Int) }, by rw [← List.map_set]; exact M'.setRegs _, F'.trans (Frm.set _ (by simp [MA.all])), ?_, hw⟩
        rw [setN_succ]
        exact hR'.setB (x := i) (by omega) (asideD hR _)
      · rintro σ H' ⟨v, m', rfl, M', F', hR', hw⟩
        have fx := M'.facts
        walk_at "rd"
        exact h H' a m' (.same M' F') hR' hw
theorem ok_keep_aside (T : Txt K mg A) : FnOk P w K mg base CX0 1 A.a_keep_aside A.d_keep_aside ["machine", "x"] (sp_tr A.c_Machine fun st x => if x < 8 then .ok { st with aside := (List.range 8).map fun j => if j ≤ x then st.reg j else st.aside.getD j 0 } else .error 1) := by
  refine T.f_keep_aside.ok sc_keep_aside (fun vs H Q E h => ?_) (fun cdv A' outer s H vs Q E hr h => ?_)
  · obtain ⟨p, dx, a, m, st, x, rfl, _⟩ := h; rfl
  · obtain ⟨p, dx, a, m, st, x, rfl, M, hR, hx, h⟩ := h
    refine ⟨_, (pss_cons (ps_if (pt_cmpR op_ge (pv 1) (pe_gint rfl T.g_ASIDE_COUNT) (nomark _)) (pss_one (ps_ret (pe_gint rfl T.g_UNKNOWN))) pss_nil) (pss_cons (ps_for PassesOwn.never rfl (pi_range1 rfl T.n_range (pa_cons (pe_op op_add (pv 1) pe_int) pa_nil)) (pg_name (i := 2) sc_keep_aside.nd rfl (Or.inl rfl)) (pss_one (ps_asg (pe_ix ix_list (pe_fld (pv 0) rfl) (pv 2) (fun _ _ => rfl)) (pg_sub (pe_fld (pv 0) rfl) (pv 2) set_list)))) (pss_one (ps_ret (pe_gint rfl T.g_GOES_ON))))), ?_⟩
    have fx := M.facts
    have tx := T.z_Machine
    walk_at "nx"
    refine ⟨_, _, rfl, rfl, _, rfl, ite2 (fun e => ?_) fun e => ?_⟩
    · rw [decide_eq_true_eq] at e
      exact h.stop (if_neg (by omega)) H (by decide) (.refl M)
    · rw [decide_eq_true_eq] at e
      have h := h.ok (if_pos (by omega))
      rw [← asideN_eq] at h
      refine ⟨_, rfl, _, _, rfl, rfl, _, rfl, by omega, by omega, ?_⟩
      rw [show ((x : Int) + 1).toNat = x + 1 by omega]
      refine for_range (n := x + 1) (fun i σ H' => ∃ v m', σ = [some (.ref p), some (.int x), v] ∧ MAt A.c_Machine H' p dx a m' ∧ Frm H H' p a ∧ R m' (asideN st i) ∧ m'.why = m.why) ⟨none, m, rfl, M, Frm.refl _ _ _, by rw [asideN_zero hR.asideL]; exact hR, rfl⟩ ?_ ?_
      · rintro i σ H' hi ⟨v, m', rfl, M', F', hR', hw⟩
        have fx := M'.facts
        walk_at "rd"
        have hr : m'.regs[i]? = some ((st.reg i : Nat) : Int) := hR'.reg (by omega)
        refine ⟨_, SqL.of M'.regs, _, atZ (j := i) (by omega) hr, ?_⟩
        refine ⟨i, ixZ (by omega) (by rw [hR'.asideLen]; omega), { m' with aside := m'.aside.set i ((st.reg i : Nat) : Int) }, by rw [← List.map_set]; exact M'.setAside _, F'.trans (Frm.set _ (by simp [MA.all])), ?_, hw⟩
        exact hR'.asideStep hR (by omega)
      · rintro σ H' ⟨v, m', rfl, M', F', hR', hw⟩
        have fx := M'.facts
        walk_at "rd"
        exact h H' a m' (.same M' F') hR' hw
/-- the decimal digits of n: hundreds, tens, ones -/
def dec3 (n : Nat) (j : Nat) : Nat := if j = 0 then n / 100 else if j = 1 then n / 10 % 10 else n % 10
theorem ok_write_decimal (T : Txt K mg A) : FnOk P w K mg base CX0 1 A.a_write_decimal A.d_write_decimal ["machine", "x"] (sp_tr A.c_Machine fun st x => .ok (((st.put st.i (st.reg x / 100)).put (st.i + 1) (st.reg x / 10 % 10)).put (st.i + 2) (st.reg x % 10))) := by
  refine T.f_write_decimal.ok sc_write_decimal (fun vs H Q E h => ?_) (fun cdv A' outer s H vs Q E hr h => ?_)
  · obtain ⟨p, dx, a, m, st, x, rfl, _⟩ := h; rfl
  · obtain ⟨p, dx, a, m, st, x, rfl, M, hR, hx, h⟩ := h
    have h := h.ok rfl
    refine ⟨_, (pss_cons (ps_set (i := 2) sc_write_decimal.nd rfl (Or.inl rfl) (pe_ix ix_list (pe_fld (pv 0) rfl) (pv 1) (fun _ _ => rfl))) (pss_cons (ps_for PassesOwn.never rfl (pi_enumT rfl T.n_enumerate (pa_cons (pe_tup (pa_cons (pe_op op_fdiv (pv 2) pe_int) (pa_cons (pe_op op_mod (pe_op op_fdiv (pv 2) pe_int) pe_int) (pa_cons (pe_op op_mod (pv 2) pe_int) pa_nil)))) pa_nil)) (pg_tup rfl (pgs_cons (pg_name (i := 3) sc_write_decimal.nd rfl (Or.inl rfl)) (pgs_cons (pg_name (i := 4) sc_write_decimal.nd rfl (Or.inl rfl)) pgs_nil))) (pss_one (ps_asg (pv 4) (pg_sub (pe_fld (pv 0) rfl) (pe_op op_mod (pe_op op_add (pe_fld (pv 0) rfl) (pv 3)) (pe_gint rfl T.g_MEMORY_SIZE)) set_list)))) (pss_one (ps_ret (pe_gint rfl T.g_GOES_ON))))), ?_⟩
    have fx := M.facts
    have tx := T.z_Machine
    walk_at "rd"
    refine ⟨_, SqL.of M.regs, _, atI_ints (hR.reg hx), ?_⟩
    generalize hn : st.reg x = n at h
    have hn2 : n < 256 := by rw [← hn]; exact regB hR x
    refine ⟨_, rfl, _, _, rfl, rfl, ⟨by decide, by decide⟩, _, rfl, _, _, rfl, rfl, ⟨by decide, by decide⟩, _, _, rfl, rfl, (show (0 : Int) < 10 by decide), _, rfl, _, _, rfl, rfl, (show (0 : Int) < 10 by decide), (show 3 ≤ sizeLine by decide), fun t ht => ⟨t, _, rfl, SqT.of upd_same, ?_⟩⟩
    have e3 : ([V.int ((n : Int) / 100), V.int ((n : Int) / 10 % 10), V.int ((n : Int) % 10)] : List V) = (List.range 3).map fun j => V.int ((dec3 n j : Nat) : Int) := by
      have q1 : (n : Int) / 100 = ((n / 100 : Nat) : Int) := by omega
      have q2 : (n : Int) / 10 % 10 = ((n / 10 % 10 : Nat) : Int) := by omega
      have q3 : (n : Int) % 10 = ((n % 10 : Nat) : Int) := by omega
      rw [q1, q2, q3]
      rfl
    have M0 := M.new (o := .tup [V.int ((n : Int) / 100), V.int ((n : Int) / 10 % 10), V.int ((n : Int) % 10)]) ht
    have nt := M.none_not ht
    have e4 : ((st.put st.i (n / 100)).put (st.i + 1) (n / 10 % 10)).put (st.i + 2) (n % 10) = putN (dec3 n) st 3 := rfl
    rw [e4] at h
    refine for_enumT (K := K) (a := t) (xs := [V.int ((n : Int) / 100), V.int ((n : Int) / 10 % 10), V.int ((n : Int) % 10)]) (fun i σ H' => ∃ v2 v3 v4 m', σ = [some (.ref p), some (.int x), v2, v3, v4] ∧ MAt A.c_Machine H' p dx a m' ∧ Frm H H' p a ∧ R m' (putN (dec3 n) st i) ∧ m'.why = m.why ∧ H' t = some (.tup [V.int ((n : Int) / 100), V.int ((n : Int) / 10 % 10), V.int ((n : Int) % 10)])) ⟨_, _, _, m, rfl, M0, Frm.new ht, hR, rfl, upd_same⟩ (fun i σ H' _ ⟨_, _, _, _, _, _, _, _, _, q⟩ => SqT.of q) ?_ ?_
    · rintro i z σ H' T' hi ⟨v2, v3, v4, m', rfl, M', F', hR', hw, ht'⟩ hT
      have hi3 : i < 3 := (List.getElem?_eq_some_iff.mp hi).1
      rw [e3, List.getElem?_map, List.getElem?_range hi3] at hi
      obtain rfl : V.int ((dec3 n i : Nat) : Int) = z := Option.some.inj hi
      have M1 := M'.new (o := .tup [.int (i : Nat), .int ((dec3 n i : Nat) : Int)]) hT
      have fx := M1.facts
      have hi2 : m'.i = st.i := by rw [hR'.i, putN_i]
      refine ⟨T', _, rfl, SqT.of upd_same, rfl, ?_⟩
      walk_at "rd"
      refine ⟨by decide, (st.i + i) % 4096, ixZ (by rw [hi2]; omega) (by rw [hR'.memLen]; exact Nat.mod_lt _ (by decide)), { m' with mem := m'.mem.set ((st.i + i) % 4096) ((dec3 n i : Nat) : Int) }, M1.setMem _, (F'.trans (Frm.new hT)).trans (Frm.set _ (by simp [MA.all])), ?_, hw, ?_⟩
      · rw [putN_succ]
        refine hR'.putB (st.i + i) ?_
        unfold dec3
        split
        · omega
        · split <;> omega
      · rw [upd_ne (fun q => nt.2 (by rw [q]; simp [MA.all])), upd_ne (ne_of_none ht' hT)]
        exact ht'
    · rintro σ H' ⟨v2, v3, v4, m', rfl, M', F', hR', hw, ht'⟩
      have fx := M'.facts
      walk_at "rd"
      exact h H' a m' (.same M' F') hR' hw
def sp_transfer (C : Addr) : Sp := fun vs H Q _ => ∃ p dx a m st, ∃ x n : Nat, vs = [.ref p, .int x, .int n] ∧ MAt C H p dx a m ∧ R m st ∧ x < 16 ∧ Out C p dx H a m (actF st x n) Q
theorem ok_transfer (T : Txt K mg A) : FnOk P w K mg base CX0 2 A.a_transfer A.d_transfer ["machine", "x", "nn"] (sp_transfer A.c_Machine) := by
  refine T.f_transfer.ok sc_transfer (fun vs H Q E h => ?_) (fun cdv A' outer s H vs Q E hr h => ?_)
  · obtain ⟨p, dx, a, m, st, x, n, rfl, _⟩ := h; rfl
  · obtain ⟨p, dx, a, m, st, x, n, rfl, M, hR, hx, h⟩ := h
    refine ⟨_, (pss_cons (ps_if (pt_cmpR op_notInK (pv 2) (pe_gref rfl T.g_TRANSFERS) (by with_unfolding_all rfl)) (pss_one (ps_ret (pe_gint rfl T.g_UNKNOWN))) pss_nil) (pss_one (ps_ret (pe_callV (k := 1) (pe_ixK (pe_gref rfl T.g_TRANSFERS) (pv 2) (fun _ _ => rfl)) (hr.mono (by decide)) (pa_cons (pv 0) (pa_cons (pv 1) pa_nil)))))), ?_⟩
    have fx := M.facts
    have tx := T.z_Machine
    have hc : (∃ f fd g, FnOk P w K mg base CX0 1 f fd ["machine", "x"] (sp_tr A.c_Machine g) ∧ PySem.W.keepIn K (.ref f) = true ∧ Binds K fd ["machine", "x"] [] ∧ fnd [((7 : Int), A.a_take_wait), ((10 : Int), A.a_take_key), ((21 : Int), A.a_set_wait), ((24 : Int), A.a_set_sound), ((30 : Int), A.a_move_i_on), ((41 : Int), A.a_point_at_digit), ((48 : Int), A.a_point_at_large_digit), ((51 : Int), A.a_write_decimal), ((85 : Int), A.a_write_registers), ((101 : Int), A.a_read_registers), ((117 : Int), A.a_keep_aside), ((133 : Int), A.a_take_from_aside)] (n : Int) = some f ∧ actF st x n = g st x) ∨ (fnd [((7 : Int), A.a_take_wait), ((10 : Int), A.a_take_key), ((21 : Int), A.a_set_wait), ((24 : Int), A.a_set_sound), ((30 : Int), A.a_move_i_on), ((41 : Int), A.a_point_at_digit), ((48 : Int), A.a_point_at_large_digit), ((51 : Int), A.a_write_decimal), ((85 : Int), A.a_write_registers), ((101 : Int), A.a_read_registers), ((117 : Int), A.a_keep_aside), ((133 : Int), A.a_take_from_aside)] (n : Int) = none ∧ actF st x n = .error 1) := by
      by_cases e : n = 7
      · subst e; exact .inl ⟨_, _, _, ok_take_wait T, T.f_take_wait.kp, T.b_take_wait, rfl, rfl⟩
      by_cases e : n = 10
      · subst e; exact .inl ⟨_, _, _, ok_take_key T, T.f_take_key.kp, T.b_take_key, rfl, rfl⟩
      by_cases e : n = 21
      · subst e; exact .inl ⟨_, _, _, ok_set_wait T, T.f_set_wait.kp, T.b_set_wait, rfl, rfl⟩
      by_cases e : n = 24
      · subst e; exact .inl ⟨_, _, _, ok_set_sound T, T.f_set_sound.kp, T.b_set_sound, rfl, rfl⟩
      by_cases e : n = 30
      · subst e; exact .inl ⟨_, _, _, ok_move_i_on T, T.f_move_i_on.kp, T.b_move_i_on, rfl, rfl⟩
      by_cases e : n = 41
      · subst e; exact .inl ⟨_, _, _, ok_point_at_digit T, T.f_point_at_digit.kp, T.b_point_at_digit, rfl, rfl⟩
      by_cases e : n = 48
      · subst e; exact .inl ⟨_, _, _, ok_point_at_large_digit T, T.f_point_at_large_digit.kp, T.b_point_at_large_digit, rfl, rfl⟩
      by_cases e : n = 51
      · subst e; exact .inl ⟨_, _, _, ok_write_decimal T, T.f_write_decimal.kp, T.b_write_decimal, rfl, rfl⟩
      by_cases e : n = 85
      · subst e; exact .inl ⟨_, _, _, ok_write_registers T, T.f_write_registers.kp, T.b_write_registers, rfl, rfl⟩
      by_cases e : n = 101
      · subst e; exact .inl ⟨_, _, _, ok_read_registers T, T.f_read_registers.kp, T.b_read_registers, rfl, rfl⟩
      by_cases e : n = 117
      · subst e; exact .inl ⟨_, _, _, ok_keep_aside T, T.f_keep_aside.kp, T.b_keep_aside, rfl, rfl⟩
      by_cases e : n = 133
      · subst e; exact .inl ⟨_, _, _, ok_take_from_aside T, T.f_take_from_aside.kp, T.b_take_from_aside, rfl, rfl⟩
      refine .inr ⟨?_, actF_none ⟨by assumption, by assumption, by assumption, by assumption, by assumption, by assumption, by assumption, by assumption, by assumption, by assumption, by assumption, by assumption⟩⟩
      unfold fnd
      rw [List.find?_eq_none.mpr ?_]
      · rfl
      · intro kv hkv q
        simp only [List.mem_cons, List.not_mem_nil, or_false] at hkv
        have q := of_decide_eq_true q
        rcases hkv with rfl | rfl | rfl | rfl | rfl | rfl | rfl | rfl | rfl | rfl | rfl | rfl <;> simp only at q <;> omega
    walk_at "rd"
    refine ⟨_, T.t_TRANSFERS, ?_⟩
    rcases hc with ⟨f, fd, g, F, kp, bb, hf, hact⟩ | ⟨hf, hact⟩
    · rw [hf]
      rw [hact] at h
      exact iteF ⟨_, T.t_TRANSFERS, _, hf, _, _, _, F, kp, bb, p, dx, a, m, st, x, rfl, M, hR, hx, h⟩
    · rw [hf]
      exact iteT (h.stop hact H (by decide) (.refl M))
end
end Sg
end
section
set_option Elab.async false
set_option linter.all false
set_option maxRecDepth 100000
set_option maxHeartbeats 2000000
set_option hygiene false
namespace Sg
open PySem PySem.Spec PyProof.Rows L2
local macro_rules | `(tactic| walk_at "rd") => `(tactic| simp only [tRet, tRetN, tIf, tIfS, tTest, tOp, tUn, tVar, tC, tSeq, tAsg, gName, tDrop, tNext, tFld, sFld, sFldAug, tCall, tMeth, tCB, tCons, tNil, tLst, tTup, tAnd, tOr, tNot, tAndV, tOrV, tNotV, tSl, tPart, tNoPart, rU, rI, rI0, rEq, rNe, rAdd, rSub, rIxL, rSetL, gSub, start_def, scal_ii, scal_bb, cxOf_K, List.map_cons, List.map_nil, List.cons_append, List.nil_append, List.append_nil, List.length_cons, List.length_nil, Nat.reduceAdd, Nat.reduceSub, List.replicate_succ, List.replicate_zero, List.getElem?_cons_zero, List.getElem?_cons_succ, List.set_cons_zero, List.set_cons_succ, Option.some.injEq, V.int.injEq, V.ref.injEq, V.bl.injEq, HO.ins.injEq, HO.lst.injEq, exists_eq_left, exists_eq_left', exists_and_left, and_assoc, true_and, and_true, decide_eq_true_eq, mf_len, lk_numbers, lk_place, lk_take, pt_place, rf_len, lk_mem, lk_regs, lk_aside, lk_i, lk_pc, lk_places, lk_wait, lk_sound, lk_pressed, lk_chance, lk_large, lk_rows, lk_why, pt_why, pt_mem, pt_rows, tIxK, tCallV, pt_i, pt_pc, pt_wait, pt_sound, pt_chance, pt_large, upd_same, upd_upd, List.cons.injEq, ite_true, ite_false, eq_self, Int.reduceEq, Int.reduceNeg, decide_true, decide_false, reduceCtorEq, if_true, if_false, Bool.not_eq_true, Bool.not_true, Bool.not_false, Bool.true_eq_false, Bool.false_eq_true, ← List.map_set, List.length_map, ipI, ipC, tAug, tAugS, rGetL, rAppend, rExtend, rPop, rCat, rRep, gCons, gNil,  rSlL, truV_bl, truV_int, fx, tx])
local macro_rules | `(tactic| walk_at "nx") => `(tactic| try simp only [tSeq, tAsg, tIfS, tTest, tOp, rEq, rNe, tVar, tC, tNext, gName, tRet, tCall, tCons, tNil, scal_ii, start_def, List.map_cons, List.map_nil, List.cons_append, List.nil_append, List.append_nil, List.length_cons, List.length_nil, Nat.reduceAdd, Nat.reduceSub, List.replicate_succ, List.replicate_zero, List.getElem?_cons_zero, List.getElem?_cons_succ, List.set_cons_zero, List.set_cons_succ, Option.some.injEq, V.ref.injEq, V.int.injEq, V.bl.injEq, exists_eq_left', exists_eq_left, exists_and_left, true_and, and_true, and_assoc, ite_true, ite_false, eq_self, Int.reduceEq, Int.reduceNeg, decide_true, decide_false, decide_eq_true_eq, reduceCtorEq, Bool.false_eq_true, if_true, if_false, ↓reduceIte, cxOf_K])
local macro_rules | `(tactic| walk_at "me") => `(tactic| simp only [tMeth, tVar, tNil, List.getElem?_cons_zero, List.getElem?_cons_succ, Option.some.injEq, V.ref.injEq, exists_eq_left', exists_eq_left, fx, HO.ins.injEq, exists_and_left, true_and, and_assoc, lk_take, lk_take_row, List.append_nil, List.nil_append])
section
variable {P : Program} {w : World} {K : PySem.W.Frag} {mg : Str → Option Value} {base : Heap} {A : Ad}
/-! ### the rows are a new list -/
theorem Go.newRows {C p dx : Addr} {H H' : Hp} {a : MA} {m m1 : MS} {l : Addr} {xs : List Int} (M : MAt C H p dx a m) (B : But H H' p) (hp : H' p = some (.ins C dx (mf { a with rows := l } m1))) (hl : H' l = some (.lst (xs.map V.int))) (nl : H l = none)
    (h : m1.mem = m.mem ∧ m1.regs = m.regs ∧ m1.aside = m.aside ∧ m1.places = m.places ∧ m1.pressed = m.pressed ∧ m1.rows = xs) : Go C p dx H a H' { a with rows := l } m1 := by
  obtain ⟨h1, h2, h3, h4, h5, h6⟩ := h
  have n := M.nes
  have d := M.nd
  have nla := (M.none_not nl).2
  simp only [MA.all, List.mem_cons, List.not_mem_nil, or_false, not_or] at nla
  refine ⟨⟨hp, by rw [h1]; exact B _ _ M.mem n.1, by rw [h2]; exact B _ _ M.regs n.2.1, by rw [h3]; exact B _ _ M.aside n.2.2.1, by rw [h4]; exact B _ _ M.places n.2.2.2.1, by rw [h5]; exact B _ _ M.pressed n.2.2.2.2.1, by rw [h6]; exact hl, ?_⟩, fun b o e n1 _ => B b o e n1, fun b hb => ?_, fun b hb => B.free hp hb⟩
  · simp only [MA.all, List.nodup_cons, List.mem_cons, List.not_mem_nil, or_false, not_or] at d ⊢
    exact ⟨⟨d.1.1, d.1.2.1, d.1.2.2.1, d.1.2.2.2.1, Ne.symm nla.1⟩, ⟨d.2.1.1, d.2.1.2.1, d.2.1.2.2.1, Ne.symm nla.2.1⟩, ⟨d.2.2.1.1, d.2.2.1.2.1, Ne.symm nla.2.2.1⟩, ⟨d.2.2.2.1.1, Ne.symm nla.2.2.2.1⟩, Ne.symm nla.2.2.2.2.1, d.2.2.2.2.2⟩
  · simp only [MA.all, List.mem_cons, List.not_mem_nil, or_false] at hb ⊢
    rcases hb with e | e | e | e | e | e
    · exact .inl (.inl e)
    · exact .inl (.inr (.inl e))
    · exact .inl (.inr (.inr (.inl e)))
    · exact .inl (.inr (.inr (.inr (.inl e))))
    · exact .inl (.inr (.inr (.inr (.inr (.inl e)))))
    · right; rw [e]; exact nl
theorem R.rowsLen {m : MS} {st : Sz36.St} (h : R m st) : m.rows.length = Sz36.high st := by rw [h.rows, tab_len]
theorem high_le (st : Sz36.St) : Sz36.high st = 32 ∨ Sz36.high st = 64 := by unfold Sz36.high; cases st.large <;> simp
theorem wide_le (st : Sz36.St) : Sz36.wide st = 64 ∨ Sz36.wide st = 128 := by unfold Sz36.wide; cases st.large <;> simp
/-- a def that turns the screen -/
def sp_scr (C : Addr) (g : Sz36.St → Sz36.St) : Sp := fun vs H Q _ => ∃ p dx a m st, vs = [.ref p] ∧ MAt C H p dx a m ∧ R m st ∧ Nxt C p dx H a m (g st) Q .non
/-- [0] * n, n read behind the [0] -/
theorem te_rep2 {n : Nat} {tn : TE} {σ : L2.St} {H : Hp} (hn : n ≤ 100000) (he : ∀ (H' : Hp) (Q : VK), Same H H' → Q (.int n) H' → tn σ H' Q) (Q : VK) (k : ∀ H1 l, H l = none → Same H H1 → H1 l = some (.lst ((List.replicate n (0 : Int)).map V.int)) → Q (.ref l) H1) :
    tOp rRep (tLst (tCons (tC (V.int 0)) tNil)) tn σ H Q := by
  refine ⟨by decide, fun l hl => he _ _ (Same.new hl) ⟨l, n, _, rfl, rfl, upd_same, by omega, by omega, ?_, fun l2 hl2 => ?_⟩⟩
  · show 1 * n ≤ 16777216
    omega
  · have e : ((List.replicate ((n : Int)).toNat [V.int 0]).flatten) = (List.replicate n (0 : Int)).map V.int := by
      rw [Int.toNat_natCast, List.map_replicate]
      exact flat_rep n
    have s1 := Same.new (o := .lst [V.int 0]) hl
    have s2 := Same.new (o := .lst ((List.replicate n (0 : Int)).map V.int)) hl2
    rw [e]
    exact k _ l2 (s1.free hl2) (s1.trans s2) upd_same
theorem ok_darken (T : Txt K mg A) : FnOk P w K mg base CX0 1 A.a_darken A.d_darken ["machine"] (sp_scr A.c_Machine Sz36.dark) := by
  refine T.f_darken.ok sc_darken (fun vs H Q E h => ?_) (fun cdv A' outer s H vs Q E hr h => ?_)
  · obtain ⟨p, dx, a, m, st, rfl, _⟩ := h; rfl
  · obtain ⟨p, dx, a, m, st, rfl, M, hR, h⟩ := h
    refine ⟨_, (pss_one (ps_fld (pv 0) (pe_op op_rep (pe_lst (pa_cons pe_int pa_nil)) (pe_callB call_len_seq rfl T.n_len PySem.boot_len (pa_cons (pe_fld (pv 0) rfl) pa_nil))) rfl)), ?_⟩
    have fx := M.facts
    have tx := T.z_Machine
    refine st_new rfl M.ob T.cl_Machine T.x_Machine_rows (by rw [mf_len]; trivial) (te_rep2 (n := Sz36.high st) (by have := high_le st; omega) fun H' Q S q => ?_) fun H' l hp hl nl B => ?_
    · have M' := M.same S
      refine ⟨_, rfl, p, A.c_Machine, dx, _, _, rfl, M'.ob, T.cl_Machine, T.x_Machine_rows, lk_rows _ _, a.rows, _, rfl, .inl (SqL.of M'.rows), ?_⟩
      rw [List.length_map, hR.rowsLen]
      exact q
    · rw [pt_rows] at hp
      exact h H' _ { m with rows := List.replicate (Sz36.high st) 0 } (Go.newRows M B hp hl nl (by exact ⟨rfl, rfl, rfl, rfl, rfl, rfl⟩)) hR.dark rfl
theorem ok_make_small (T : Txt K mg A) : FnOk P w K mg base CX0 1 A.a_make_small A.d_make_small ["machine"] (sp_scr A.c_Machine fun st => Sz36.dark { st with large := false }) := by
  refine T.f_make_small.ok sc_make_small (fun vs H Q E h => ?_) (fun cdv A' outer s H vs Q E hr h => ?_)
  · obtain ⟨p, dx, a, m, st, rfl, _⟩ := h; rfl
  · obtain ⟨p, dx, a, m, st, rfl, M, hR, h⟩ := h
    refine ⟨_, (pss_cons (ps_fld (pv 0) pe_int rfl) (pss_one (ps_fld (pv 0) (pe_op op_rep (pe_lst (pa_cons pe_int pa_nil)) (pe_gint rfl T.g_SMALL_HEIGHT)) rfl))), ?_⟩
    have fx := M.facts
    have tx := T.z_Machine
    refine st_int (te := tC (.int 0)) rfl M.ob T.cl_Machine T.x_Machine_large (by rw [mf_len]; trivial) (fun _ q => q) fun H1 M1 B1 => ?_
    rw [pt_large] at M1
    refine st_new rfl M1 T.cl_Machine T.x_Machine_rows (by rw [mf_len]; trivial) (te_rep (n := 32) (by decide) fun _ _ q => q) fun H' l hp hl nl B => ?_
    rw [pt_rows] at hp
    exact h H' _ { m with large := 0, rows := List.replicate 32 0 } (Go.newRows M (B1.trans B) hp hl (B1.free M1 nl) (by exact ⟨rfl, rfl, rfl, rfl, rfl, rfl⟩)) (hR.size false) rfl
theorem ok_make_large (T : Txt K mg A) : FnOk P w K mg base CX0 1 A.a_make_large A.d_make_large ["machine"] (sp_scr A.c_Machine fun st => Sz36.dark { st with large := true }) := by
  refine T.f_make_large.ok sc_make_large (fun vs H Q E h => ?_) (fun cdv A' outer s H vs Q E hr h => ?_)
  · obtain ⟨p, dx, a, m, st, rfl, _⟩ := h; rfl
  · obtain ⟨p, dx, a, m, st, rfl, M, hR, h⟩ := h
    refine ⟨_, (pss_cons (ps_fld (pv 0) pe_int rfl) (pss_one (ps_fld (pv 0) (pe_op op_rep (pe_lst (pa_cons pe_int pa_nil)) (pe_gint rfl T.g_LARGE_HEIGHT)) rfl))), ?_⟩
    have fx := M.facts
    have tx := T.z_Machine
    refine st_int (te := tC (.int 1)) rfl M.ob T.cl_Machine T.x_Machine_large (by rw [mf_len]; trivial) (fun _ q => q) fun H1 M1 B1 => ?_
    rw [pt_large] at M1
    refine st_new rfl M1 T.cl_Machine T.x_Machine_rows (by rw [mf_len]; trivial) (te_rep (n := 64) (by decide) fun _ _ q => q) fun H' l hp hl nl B => ?_
    rw [pt_rows] at hp
    exact h H' _ { m with large := 1, rows := List.replicate 64 0 } (Go.newRows M (B1.trans B) hp hl (B1.free M1 nl) (by exact ⟨rfl, rfl, rfl, rfl, rfl, rfl⟩)) (hR.size true) rfl
/-! ### comprehensions -/
theorem pe_fldB {X : Cx} {e : Expr} {f : Str} {pos : Pos} {ta : TE} (hK : X.K = K) (he : PE X e ta) (hb : attributeBase e f X.env (eval e X.env) = eval e X.env) : PE X (.Attribute e f pos) (tFld K ta f) := by
  subst hK
  exact pe_fld he hb
theorem ix_listB {X : Cx} (hK : X.K = K) : IxR X (rIxL K) := by
  subst hK
  exact ix_list
theorem wipe_gName (σ : L2.St) (v : Nat) (x : V) : wipe ((wipe σ [v]).set v (some x)) [v] = wipe σ [v] := by
  show ((σ.set v none).set v (some x)).set v none = σ.set v none
  rw [List.set_set, List.set_set]
theorem same_put {H H' : Hp} {D : Addr} {o : HO} (S : Same H H') (hD : H D = none) : Same H (upd H' D o) := fun b u e => by
  rw [upd_ne (ne_of_none e hD)]; exact S b u e
/-- [f(z) for z in zs], zs a list of ints -/
theorem te_lc {a : Addr} {zs : List Int} {f : Int → Int} {v : Nat} {te tl : TE} {σ : L2.St} {H : Hp} (hz : H a = some (.lst (zs.map V.int))) (hl : ∀ Q : VK, Q (.ref a) H → tl σ H Q) (hlen : zs.length ≤ 1000)
    (he : ∀ (H' : Hp) (z : Int) (Q' : VK), z ∈ zs → Q' (.int (f z)) H' → te ((wipe σ [v]).set v (some (.int z))) H' Q') (Q : VK)
    (k : ∀ H1 l, H l = none → Same H H1 → H1 l = some (.lst ((zs.map f).map V.int)) → Q (.ref l) H1) : tLc (iList K tl) (gName v) tYes te [v] σ H Q := by
  refine hl _ ⟨a, rfl, ⟨_, SqL.of hz⟩, fun D hD => lc_list (xs := zs.map V.int) (fun i H' => Same H H' ∧ H' D = some (.lst (((zs.take i).map f).map V.int))) ⟨Same.new hD, upd_same⟩ (fun i H' _ q => SqL.of (q.1 _ _ hz)) ?_ ?_⟩
  · rintro i x H' hi ⟨S, hl'⟩
    have hi2 : i < zs.length := by
      have := (List.getElem?_eq_some_iff.mp hi).1
      simpa using this
    rw [List.getElem?_map, List.getElem?_eq_getElem hi2] at hi
    obtain rfl : V.int zs[i] = x := Option.some.inj hi
    refine ⟨wipe_gName _ _ _, ?_⟩
    simp only [tYes, if_true]
    refine he _ _ _ (List.getElem_mem hi2) ⟨_, hl', ?_, same_put S hD, ?_⟩
    · simp only [List.length_map, List.length_take]
      have : (1000 : Nat) < sizeLine := by decide
      omega
    · rw [upd_same, take_snoc (List.getElem?_eq_getElem hi2)]
      simp only [List.map_append, List.map_cons, List.map_nil]
  · rintro H' ⟨S, hl'⟩
    rw [List.length_map, List.take_length] at hl'
    exact k H' D hD S hl'
/-- [f(j) for .. in range ..], n items -/
theorem te_lcJ {J : It} {n : Nat} {g f : Nat → Int} {v : Nat} {te : TE} {wi : TI} {σ : L2.St} {H : Hp} (j1 : ∀ i H, i < n → J.go i H) (j2 : ∀ i H x H', J.yld i H x H' → H' = H ∧ x = .int (g i)) (j3 : ∀ i H, n ≤ i → J.stop i H) (hw : ∀ R : It → Hp → Prop, R J H → wi σ H R) (hlen : n ≤ 1000)
    (he : ∀ (H' : Hp) (j : Nat) (Q' : VK), j < n → Same H H' → Q' (.int (f j)) H' → te ((wipe σ [v]).set v (some (.int (g j)))) H' Q') (Q : VK)
    (k : ∀ H1 l, H l = none → Same H H1 → H1 l = some (.lst (((List.range n).map f).map V.int)) → Q (.ref l) H1) : tLc wi (gName v) tYes te [v] σ H Q := by
  refine hw _ fun D hD => ?_
  refine ⟨fun i m' H' => m' = n - i ∧ i ≤ n ∧ Same H H' ∧ H' D = some (.lst (((List.range i).map f).map V.int)), ⟨n, by simp, Nat.zero_le _, Same.new hD, upd_same⟩, ?_⟩
  rintro i m' H' ⟨rfl, hi, S, hl'⟩
  by_cases hlt : i < n
  · refine .inr ⟨j1 _ _ hlt, fun H' => i + 1 ≤ n ∧ Same H H' ∧ H' D = some (.lst (((List.range (i + 1)).map f).map V.int)), fun H' p' => ⟨n - (i + 1), by omega, rfl, p'⟩, fun x H2 y => ?_⟩
    obtain ⟨e, ex⟩ := j2 _ _ _ _ y
    subst e
    subst ex
    refine ⟨wipe_gName _ _ _, ?_⟩
    simp only [tYes, if_true]
    refine he _ _ _ hlt S ⟨_, hl', ?_, hlt, same_put S hD, ?_⟩
    · simp only [List.length_map, List.length_range]
      have : (1000 : Nat) < sizeLine := by decide
      omega
    · rw [upd_same, List.range_succ]
      simp only [List.map_append, List.map_cons, List.map_nil]
  · have e : i = n := by omega
    subst e
    exact .inl ⟨j3 _ _ (Nat.le_refl _), k H' D hD S hl'⟩
theorem cutV_take (xs : List Int) {n : Nat} (h : n ≤ xs.length) : cutV (xs.map V.int) none (some (n : Int)) = (xs.take n).map V.int := by
  unfold cutV
  have e1 : HT.sIx (xs.map V.int).length 0 none = 0 := rfl
  have e2 : HT.sIx (xs.map V.int).length (xs.map V.int).length (some (n : Int)) = n := by rw [HT.sIx_nat, List.length_map]; omega
  rw [e1, e2, Nat.sub_zero, List.drop_zero, List.map_take]
def sp_move_down (C : Addr) : Sp := fun vs H Q _ => ∃ p dx a m st, ∃ n : Nat, vs = [.ref p, .int n] ∧ MAt C H p dx a m ∧ R m st ∧ n < 16 ∧ Nxt C p dx H a m (Sz36.moved st 0 n) Q .non
theorem ok_move_down (T : Txt K mg A) : FnOk P w K mg base CX0 1 A.a_move_down A.d_move_down ["machine", "n"] (sp_move_down A.c_Machine) := by
  refine T.f_move_down.ok sc_move_down (fun vs H Q E h => ?_) (fun cdv A' outer s H vs Q E hr h => ?_)
  · obtain ⟨p, dx, a, m, st, n, rfl, _⟩ := h; rfl
  · obtain ⟨p, dx, a, m, st, n, rfl, M, hR, hn, h⟩ := h
    refine ⟨_, (pss_cons (ps_set (i := 2) sc_move_down.nd rfl (Or.inl rfl) (pe_slice sl_list (pe_fld (pv 0) rfl) po_none (po_some (pe_op op_sub (pe_callB call_len_seq rfl T.n_len PySem.boot_len (pa_cons (pe_fld (pv 0) rfl) pa_nil)) (pv 1))))) (pss_one (ps_fld (pv 0) (pe_op op_cat (pe_op op_rep (pe_lst (pa_cons pe_int pa_nil)) (pv 1)) (pv 2)) rfl))), ?_⟩
    have fx := M.facts
    have tx := T.z_Machine
    have hh := high_le st
    walk_at "rd"
    have hlen : ((m.rows.map V.int).length : Int) - (n : Int) = ((Sz36.high st - n : Nat) : Int) := by rw [List.length_map, hR.rowsLen]; omega
    refine ⟨_, .inl (SqL.of M.rows), _, SqL.of M.rows, fun l1 n1 => ?_⟩
    rw [hlen, cutV_take _ (by rw [hR.rowsLen]; omega), Int.toNat_natCast, flat_rep, ← List.map_replicate]
    refine ⟨by decide, fun l2 n2 => ⟨by omega, by omega, by show 1 * n ≤ 16777216; omega, fun l3 n3 => ?_⟩⟩
    have S1 := Same.new (o := .lst ((m.rows.take (Sz36.high st - n)).map V.int)) n1
    have S2 := Same.new (o := .lst [V.int 0]) n2
    have S3 := Same.new (o := .lst ((List.replicate n (0 : Int)).map V.int)) n3
    refine ⟨_, (S2.trans S3) _ _ upd_same, ?_, fun l4 n4 => ?_⟩
    · simp only [List.length_map, List.length_replicate, List.length_take, hR.rowsLen]
      show _ ≤ 16777216
      omega
    have S4 := Same.new (o := .lst ((List.replicate n (0 : Int)).map V.int ++ (m.rows.take (Sz36.high st - n)).map V.int)) n4
    have S := ((S1.trans S2).trans S3).trans S4
    have M4 := M.same S
    have hlp : l4 ≠ p := fun q => by rw [q, (((S1.trans S2).trans S3) _ _ M.ob)] at n4; cases n4
    refine ⟨A.c_Machine, dx, mf a m, M4.ob, T.cl_Machine, T.x_Machine_rows, by rw [mf_len]; trivial, ?_⟩
    rw [pt_rows]
    refine h _ { a with rows := l4 } { m with rows := tab (Sz36.high st) fun y => if n ≤ y then rowOf st (y - n) else 0 } (Go.newRows M (fun b o e nb => by rw [upd_ne nb]; exact S b o e) upd_same ?_ (((S1.trans S2).trans S3).free n4) (by exact ⟨rfl, rfl, rfl, rfl, rfl, rfl⟩)) (hR.down n) rfl
    rw [upd_ne hlp, upd_same, ← List.map_append, hR.rows, tab_down _ (by omega)]
theorem ok_move_right (T : Txt K mg A) : FnOk P w K mg base CX0 1 A.a_move_right A.d_move_right ["machine"] (sp_scr A.c_Machine fun st => Sz36.moved st 4 0) := by
  refine T.f_move_right.ok sc_move_right (fun vs H Q E h => ?_) (fun cdv A' outer s H vs Q E hr h => ?_)
  · obtain ⟨p, dx, a, m, st, rfl, _⟩ := h; rfl
  · obtain ⟨p, dx, a, m, st, rfl, M, hR, h⟩ := h
    refine ⟨_, (pss_one (ps_fld (pv 0) (pe_lc (own := [("row", 1)]) rfl sc_move_right.nd (pi_list (pe_fld (pv 0) rfl)) (blkOk_by rfl) (fun _ _ _ _ _ => (pg_name (i := 1) sc_move_right.nd rfl (Or.inl rfl))) (fun _ _ _ _ _ => pts_nil) (fun _ _ _ _ _ => (pe_op op_shr (pv 1) (pe_gint rfl T.g_COLUMNS_MOVED)))) rfl)), ?_⟩
    have fx := M.facts
    have tx := T.z_Machine
    refine st_new rfl M.ob T.cl_Machine T.x_Machine_rows (by rw [mf_len]; trivial) (te_lc (f := fun z => z / 2 ^ 4) M.rows (fun Q q => ⟨_, rfl, p, A.c_Machine, dx, _, _, rfl, M.ob, T.cl_Machine, T.x_Machine_rows, lk_rows _ _, q⟩) (by rw [hR.rowsLen]; have := high_le st; omega) fun H' z Q' hz q => ⟨_, rfl, _, _, rfl, rfl, (show (0 : Int) ≤ 4 by decide), q⟩) fun H' l hp hl nl B => ?_
    rw [pt_rows] at hp
    have e : m.rows.map (fun z => z / 2 ^ 4) = tab (Sz36.high st) fun y => rowOf st y / 2 ^ 4 := by
      rw [hR.rows]
      exact tab_map _ _ _ fun j _ => by simp
    rw [e] at hl
    exact h H' _ { m with rows := tab (Sz36.high st) fun y => rowOf st y / 2 ^ 4 } (Go.newRows M B hp hl nl (by exact ⟨rfl, rfl, rfl, rfl, rfl, rfl⟩)) hR.right rfl
theorem ok_move_left (T : Txt K mg A) : FnOk P w K mg base CX0 2 A.a_move_left A.d_move_left ["machine"] (sp_scr A.c_Machine fun st => Sz36.moved st (-4) 0) := by
  have G_screen_width : FnOk P w K mg base CX0 _ _ _ _ _ := ok_screen_width T
  refine T.f_move_left.ok sc_move_left (fun vs H Q E h => ?_) (fun cdv A' outer s H vs Q E hr h => ?_)
  · obtain ⟨p, dx, a, m, st, rfl, _⟩ := h; rfl
  · obtain ⟨p, dx, a, m, st, rfl, M, hR, h⟩ := h
    refine ⟨_, (pss_cons (ps_set (i := 1) sc_move_left.nd rfl (Or.inr rfl) (pe_op op_shlB pe_int (pe_call G_screen_width (hr.mono (by decide)) rfl T.g_screen_width T.f_screen_width.kp T.b_screen_width .nil pass0 (pa_cons (pv 0) pa_nil)))) (pss_one (ps_fld (pv 0) (pe_lc (own := [("row", 2)]) rfl sc_move_left.nd (pi_list (pe_fld (pv 0) rfl)) (blkOk_by rfl) (fun _ _ _ _ _ => (pg_name (i := 2) sc_move_left.nd rfl (Or.inl rfl))) (fun _ _ _ _ _ => pts_nil) (fun _ _ _ _ _ => (pe_op op_mod (pe_op op_shlB (pv 2) (pe_gint rfl T.g_COLUMNS_MOVED)) (pv 1)))) rfl))), ?_⟩
    have fx := M.facts
    have tx := T.z_Machine
    have hw := wide_le st
    have hb : ∀ y, rowOf st y < 2 ^ 128 := fun y => Nat.lt_of_lt_of_le (num_lt _ _) (Nat.pow_le_pow_right (by decide) (by show Sz36.wide st ≤ 128; omega))
    refine ⟨_, rfl, p, dx, a, m, st, rfl, M, hR, _, _, rfl, rfl, ⟨by omega, by omega, by decide⟩, ?_⟩
    simp only [gName, start_def, List.map_cons, List.map_nil, List.cons_append, List.nil_append, List.length_cons, List.length_nil, Nat.reduceAdd, Nat.reduceSub, List.replicate_succ, List.replicate_zero, List.set_cons_zero, List.set_cons_succ, cxOf_K]
    have eL : (1 : Int) * 2 ^ ((Sz36.wide st : Nat) : Int).toNat = ((2 ^ Sz36.wide st : Nat) : Int) := by rw [Int.one_mul, Int.toNat_natCast]; simp
    refine st_new rfl M.ob T.cl_Machine T.x_Machine_rows (by rw [mf_len]; trivial) (te_lc (f := fun z => z * 2 ^ 4 % (1 * 2 ^ ((Sz36.wide st : Nat) : Int).toNat)) M.rows (fun Q q => ⟨_, rfl, p, A.c_Machine, dx, _, _, rfl, M.ob, T.cl_Machine, T.x_Machine_rows, lk_rows _ _, q⟩) (by rw [hR.rowsLen]; have := high_le st; omega) fun H' z Q' hz q => ⟨_, rfl, _, _, rfl, rfl, ⟨by decide, by decide, ?_⟩, _, rfl, _, _, rfl, rfl, ?_, q⟩) fun H' l hp hl nl B => ?_
    · rw [hR.rows] at hz
      obtain ⟨y, _, e⟩ := List.mem_map.mp hz
      rw [← e]
      have : (2 ^ 128 : Nat) < 2 ^ 1000 := by decide
      have := hb y
      omega
    · have := Nat.two_pow_pos (Sz36.wide st)
      show (0 : Int) < 1 * 2 ^ ((Sz36.wide st : Nat) : Int).toNat
      rw [eL]
      omega
    rw [pt_rows] at hp
    have e : m.rows.map (fun z => z * 2 ^ 4 % (1 * 2 ^ ((Sz36.wide st : Nat) : Int).toNat)) = tab (Sz36.high st) fun y => rowOf st y * 2 ^ 4 % 2 ^ Sz36.wide st := by
      rw [hR.rows, eL]
      exact tab_map _ _ _ fun j _ => by simp
    rw [e] at hl
    exact h H' _ { m with rows := tab (Sz36.high st) fun y => rowOf st y * 2 ^ 4 % 2 ^ Sz36.wide st } (Go.newRows M B hp hl nl (by exact ⟨rfl, rfl, rfl, rfl, rfl, rfl⟩)) hR.left rfl
/-! ### the first digit 0 -/
def actS (m : Sz36.St) (w : Nat) : Sz36.May :=
  if w = 0x00E0 then .ok (Sz36.dark m)
    else if w / 16 = 0x00C then .ok (Sz36.moved m 0 (w % 16))
    else if w = 0x00FB then .ok (Sz36.moved m 4 0)
    else if w = 0x00FC then .ok (Sz36.moved m (-4) 0)
    else if w = 0x00FE then .ok (Sz36.dark ({ m with large := false } : Sz36.St))
    else if w = 0x00FF then .ok (Sz36.dark ({ m with large := true } : Sz36.St))
    else .error 1
def sp_change_screen (C : Addr) : Sp := fun vs H Q _ => ∃ p dx a m st, ∃ w : Nat, vs = [.ref p, .int w] ∧ MAt C H p dx a m ∧ R m st ∧ Out C p dx H a m (actS st w) Q
theorem ok_change_screen (T : Txt K mg A) : FnOk P w K mg base CX0 3 A.a_change_screen A.d_change_screen ["machine", "word"] (sp_change_screen A.c_Machine) := by
  have G_darken : FnOk P w K mg base CX0 _ _ _ _ _ := ok_darken T
  have G_make_large : FnOk P w K mg base CX0 _ _ _ _ _ := ok_make_large T
  have G_make_small : FnOk P w K mg base CX0 _ _ _ _ _ := ok_make_small T
  have G_move_down : FnOk P w K mg base CX0 _ _ _ _ _ := ok_move_down T
  have G_move_left : FnOk P w K mg base CX0 _ _ _ _ _ := ok_move_left T
  have G_move_right : FnOk P w K mg base CX0 _ _ _ _ _ := ok_move_right T
  refine T.f_change_screen.ok sc_change_screen (fun vs H Q E h => ?_) (fun cdv A' outer s H vs Q E hr h => ?_)
  · obtain ⟨p, dx, a, m, st, n, rfl, _⟩ := h; rfl
  · obtain ⟨p, dx, a, m, st, n, rfl, M, hR, h⟩ := h
    refine ⟨_, (pss_cons (ps_if (pt_cmpR op_eq (pv 1) pe_int (nomark _)) (pss_one (ps_expr (pe_call G_darken (hr.mono (by decide)) rfl T.g_darken T.f_darken.kp T.b_darken .nil pass0 (pa_cons (pv 0) pa_nil)))) (pss_one (ps_if (pt_cmpR op_eq (pe_op op_fdiv (pv 1) pe_int) pe_int (nomark _)) (pss_one (ps_expr (pe_call G_move_down (hr.mono (by decide)) rfl T.g_move_down T.f_move_down.kp T.b_move_down .nil pass0 (pa_cons (pv 0) (pa_cons (pe_op op_mod (pv 1) pe_int) pa_nil))))) (pss_one (ps_if (pt_cmpR op_eq (pv 1) pe_int (nomark _)) (pss_one (ps_expr (pe_call G_move_right (hr.mono (by decide)) rfl T.g_move_right T.f_move_right.kp T.b_move_right .nil pass0 (pa_cons (pv 0) pa_nil)))) (pss_one (ps_if (pt_cmpR op_eq (pv 1) pe_int (nomark _)) (pss_one (ps_expr (pe_call G_move_left (hr.mono (by decide)) rfl T.g_move_left T.f_move_left.kp T.b_move_left .nil pass0 (pa_cons (pv 0) pa_nil)))) (pss_one (ps_if (pt_cmpR op_eq (pv 1) pe_int (nomark _)) (pss_one (ps_expr (pe_call G_make_small (hr.mono (by decide)) rfl T.g_make_small T.f_make_small.kp T.b_make_small .nil pass0 (pa_cons (pv 0) pa_nil)))) (pss_one (ps_if (pt_cmpR op_eq (pv 1) pe_int (nomark _)) (pss_one (ps_expr (pe_call G_make_large (hr.mono (by decide)) rfl T.g_make_large T.f_make_large.kp T.b_make_large .nil pass0 (pa_cons (pv 0) pa_nil)))) (pss_one (ps_ret (pe_gint rfl T.g_UNKNOWN)))))))))))))) (pss_one (ps_ret (pe_gint rfl T.g_GOES_ON)))), ?_⟩
    have fx := M.facts
    have tx := T.z_Machine
    walk_at "rd"
    unfold actS at h
    refine ite2 (fun e => ?_) fun e1 => ⟨⟨by decide, by decide⟩, ite2 (fun e => ⟨by decide, ?_⟩) fun e2 => ite2 (fun e => ?_) fun e3 => ite2 (fun e => ?_) fun e4 => ite2 (fun e => ?_) fun e5 => ite2 (fun e => ?_) fun e6 => ?_⟩
    · rw [if_pos (by omega)] at h
      exact ⟨p, dx, a, m, st, rfl, M, hR, h.ok rfl⟩
    · rw [if_neg (by omega), if_pos (by omega)] at h
      refine ⟨p, dx, a, m, st, n % 16, ?_, M, hR, by omega, h.ok rfl⟩
      rw [show (n : Int) % 16 = ((n % 16 : Nat) : Int) by omega]
    · rw [if_neg (by omega), if_neg (by omega), if_pos (by omega)] at h
      exact ⟨p, dx, a, m, st, rfl, M, hR, h.ok rfl⟩
    · rw [if_neg (by omega), if_neg (by omega), if_neg (by omega), if_pos (by omega)] at h
      exact ⟨p, dx, a, m, st, rfl, M, hR, h.ok rfl⟩
    · rw [if_neg (by omega), if_neg (by omega), if_neg (by omega), if_neg (by omega), if_pos (by omega)] at h
      exact ⟨p, dx, a, m, st, rfl, M, hR, h.ok rfl⟩
    · rw [if_neg (by omega), if_neg (by omega), if_neg (by omega), if_neg (by omega), if_neg (by omega), if_pos (by omega)] at h
      exact ⟨p, dx, a, m, st, rfl, M, hR, h.ok rfl⟩
    · rw [if_neg (by omega), if_neg (by omega), if_neg (by omega), if_neg (by omega), if_neg (by omega), if_neg (by omega)] at h
      exact h.stop rfl H (by decide) (.refl M)
end
end Sg
end
section
set_option Elab.async false
set_option linter.all false
set_option maxRecDepth 100000
set_option maxHeartbeats 2000000
set_option hygiene false
namespace Sg
open PySem PySem.Spec PyProof.Rows L2
local macro_rules | `(tactic| walk_at "rd") => `(tactic| simp only [tRet, tRetN, tIf, tIfS, tTest, tOp, tUn, tVar, tC, tSeq, tAsg, gName, tDrop, tNext, tFld, sFld, sFldAug, tCall, tMeth, tCB, tCons, tNil, tLst, tTup, tAnd, tOr, tNot, tAndV, tOrV, tNotV, tSl, tPart, tNoPart, rU, rI, rI0, rEq, rNe, rAdd, rSub, rIxL, rSetL, gSub, start_def, scal_ii, scal_bb, cxOf_K, List.map_cons, List.map_nil, List.cons_append, List.nil_append, List.append_nil, List.length_cons, List.length_nil, Nat.reduceAdd, Nat.reduceSub, List.replicate_succ, List.replicate_zero, List.getElem?_cons_zero, List.getElem?_cons_succ, List.set_cons_zero, List.set_cons_succ, Option.some.injEq, V.int.injEq, V.ref.injEq, V.bl.injEq, HO.ins.injEq, HO.lst.injEq, exists_eq_left, exists_eq_left', exists_and_left, and_assoc, true_and, and_true, decide_eq_true_eq, mf_len, lk_numbers, lk_place, lk_take, pt_place, rf_len, lk_mem, lk_regs, lk_aside, lk_i, lk_pc, lk_places, lk_wait, lk_sound, lk_pressed, lk_chance, lk_large, lk_rows, lk_why, pt_why, pt_mem, pt_rows, tIxK, tCallV, pt_i, pt_pc, pt_wait, pt_sound, pt_chance, pt_large, upd_same, upd_upd, List.cons.injEq, ite_true, ite_false, eq_self, Int.reduceEq, Int.reduceNeg, decide_true, decide_false, reduceCtorEq, if_true, if_false, Bool.not_eq_true, Bool.not_true, Bool.not_false, Bool.true_eq_false, Bool.false_eq_true, ← List.map_set, List.length_map, ipI, ipC, tAug, tAugS, rGetL, rAppend, rExtend, rPop, rCat, rRep, gCons, gNil,  rSlL, truV_bl, truV_int, fx, tx])
local macro_rules | `(tactic| walk_at "nx") => `(tactic| try simp only [tSeq, tAsg, tIfS, tTest, tOp, rEq, rNe, tVar, tC, tNext, gName, tRet, tCall, tCons, tNil, scal_ii, start_def, List.map_cons, List.map_nil, List.cons_append, List.nil_append, List.append_nil, List.length_cons, List.length_nil, Nat.reduceAdd, Nat.reduceSub, List.replicate_succ, List.replicate_zero, List.getElem?_cons_zero, List.getElem?_cons_succ, List.set_cons_zero, List.set_cons_succ, Option.some.injEq, V.ref.injEq, V.int.injEq, V.bl.injEq, exists_eq_left', exists_eq_left, exists_and_left, true_and, and_true, and_assoc, ite_true, ite_false, eq_self, Int.reduceEq, Int.reduceNeg, decide_true, decide_false, decide_eq_true_eq, reduceCtorEq, Bool.false_eq_true, if_true, if_false, ↓reduceIte, cxOf_K])
local macro_rules | `(tactic| walk_at "me") => `(tactic| simp only [tMeth, tVar, tNil, List.getElem?_cons_zero, List.getElem?_cons_succ, Option.some.injEq, V.ref.injEq, exists_eq_left', exists_eq_left, fx, HO.ins.injEq, exists_and_left, true_and, and_assoc, lk_take, lk_take_row, List.append_nil, List.nil_append])
section
variable {P : Program} {w : World} {K : PySem.W.Frag} {mg : Str → Option Value} {base : Heap} {A : Ad}
theorem R.drop {m : MS} {s : Sz36.St} (h : R m s) {p : Nat} {r : List Nat} (e : s.back_ = p :: r) : R { m with places := m.places.dropLast } { s with back_ := r } :=
  { (h.pop e).1 with pc := h.pc, pcB := h.pcB }
def actB (m : Sz36.St) : Sz36.May := match m.back_ with
  | p :: r => .ok { m with pc := p, back_ := r }
  | [] => .error 3
def sp_come_back (C : Addr) : Sp := fun vs H Q _ => ∃ p dx a m st, vs = [.ref p] ∧ MAt C H p dx a m ∧ R m st ∧ Out C p dx H a m (actB st) Q
theorem ok_come_back (T : Txt K mg A) : FnOk P w K mg base CX0 2 A.a_come_back A.d_come_back ["machine"] (sp_come_back A.c_Machine) := by
  have G_go_to : FnOk P w K mg base CX0 _ _ _ _ _ := ok_go_to T
  refine T.f_come_back.ok sc_come_back (fun vs H Q E h => ?_) (fun cdv A' outer s H vs Q E hr h => ?_)
  · obtain ⟨p, dx, a, m, st, rfl, _⟩ := h; rfl
  · obtain ⟨p, dx, a, m, st, rfl, M, hR, h⟩ := h
    refine ⟨_, (pss_cons (ps_if (pt_cmpR op_eq (pe_callB call_len_seq rfl T.n_len PySem.boot_len (pa_cons (pe_fld (pv 0) rfl) pa_nil)) pe_int (nomark _)) (pss_one (ps_ret (pe_gint rfl T.g_WRONG_PLACES))) pss_nil) (pss_one (ps_ret (pe_call G_go_to (hr.mono (by decide)) rfl T.g_go_to T.f_go_to.kp T.b_go_to .nil pass0 (pa_cons (pv 0) (pa_cons (pe_bm0 PySem.F.plainAttrs_list PySem.F.slot_list_pop PySem.F.type_list_pop mt_pop (pe_fld (pv 0) rfl)) pa_nil)))))), ?_⟩
    have fx := M.facts
    have tx := T.z_Machine
    walk_at "rd"
    refine ⟨_, .inl (SqL.of M.places), ?_⟩
    rw [List.length_map, hR.placesLen]
    unfold actB at h
    cases hb : st.back_ with
    | nil =>
      rw [hb] at h
      rw [if_pos (by simp)]
      exact h.stop rfl H (by decide) (.refl M)
    | cons q r =>
      rw [hb] at h
      have h := h.ok rfl
      obtain ⟨_, hq, _⟩ := hR.pop hb
      have hq2 : q < 4096 := hR.placesB q (by rw [hb]; exact List.mem_cons_self ..)
      rw [if_neg (by rw [List.length_cons]; omega)]
      refine ⟨_, rfl, p, A.c_Machine, dx, _, _, rfl, M.ob, T.cl_Machine, T.x_Machine_places, lk_places _ _, .inl ⟨rfl, _, SqL.of M.places⟩, a.places, _, V.int (q : Int), rfl, rfl, M.places, ?_, ?_⟩
      · rw [List.length_map, List.getElem?_map, hq]; rfl
      · rw [← List.map_dropLast]
        refine ⟨p, dx, a, _, _, q, rfl, M.setPlaces _, hR.drop hb, ?_⟩
        have e : ({ st with back_ := r } : Sz36.St).jump q = { st with pc := q, back_ := r } := by
          unfold Sz36.St.jump
          rw [Nat.mod_eq_of_lt hq2]
        rw [e]
        exact h.on (.same (M.setPlaces _) (Frm.set _ (by simp [MA.all]))) rfl
theorem act_0 {s : Sz36.St} {w : Nat} (h : w / 4096 = 0) : Sz36.act s w = if w = 238 then actB s else if w = 253 then .error 4 else actS s w := by
  unfold Sz36.act
  simp only [h]
  unfold actS actB
  by_cases e1 : w = 238
  · subst e1; rfl
  · by_cases e2 : w = 253
    · subst e2; rfl
    · simp only [e1, e2, if_false]
/-- an instruction, its first digit d -/
def sp_ins (C : Addr) (d : Nat) : Sp := fun vs H Q _ => ∃ p dx a m st, ∃ w : Nat, vs = [.ref p, .int w] ∧ MAt C H p dx a m ∧ R m st ∧ w < 65536 ∧ w / 4096 = d ∧ Out C p dx H a m (Sz36.act st w) Q
theorem ok_do_without_registers (T : Txt K mg A) : FnOk P w K mg base CX0 4 A.a_do_without_registers A.d_do_without_registers ["machine", "word"] (sp_ins A.c_Machine 0) := by
  have G_change_screen : FnOk P w K mg base CX0 _ _ _ _ _ := ok_change_screen T
  have G_come_back : FnOk P w K mg base CX0 _ _ _ _ _ := ok_come_back T
  refine T.f_do_without_registers.ok sc_do_without_registers (fun vs H Q E h => ?_) (fun cdv A' outer s H vs Q E hr h => ?_)
  · obtain ⟨p, dx, a, m, st, n, rfl, _⟩ := h; rfl
  · obtain ⟨p, dx, a, m, st, n, rfl, M, hR, hn, hd, h⟩ := h
    refine ⟨_, (pss_cons (ps_if (pt_cmpR op_eq (pv 1) pe_int (nomark _)) (pss_one (ps_ret (pe_call G_come_back (hr.mono (by decide)) rfl T.g_come_back T.f_come_back.kp T.b_come_back .nil pass0 (pa_cons (pv 0) pa_nil)))) pss_nil) (pss_cons (ps_if (pt_cmpR op_eq (pv 1) pe_int (nomark _)) (pss_one (ps_ret (pe_gint rfl T.g_ENDED))) pss_nil) (pss_one (ps_ret (pe_call G_change_screen (hr.mono (by decide)) rfl T.g_change_screen T.f_change_screen.kp T.b_change_screen .nil pass0 (pa_cons (pv 0) (pa_cons (pv 1) pa_nil))))))), ?_⟩
    have fx := M.facts
    have tx := T.z_Machine
    rw [act_0 hd] at h
    walk_at "rd"
    refine ite2 (fun e => ?_) fun e1 => ite2 (fun e => ?_) fun e2 => ?_
    · rw [if_pos (by omega)] at h
      exact ⟨p, dx, a, m, st, rfl, M, hR, h⟩
    · rw [if_neg (by omega), if_pos (by omega)] at h
      exact h.stop rfl H (by decide) (.refl M)
    · rw [if_neg (by omega), if_neg (by omega)] at h
      exact ⟨p, dx, a, m, st, n, rfl, M, hR, h⟩
theorem mod_jump (s : Sz36.St) (w : Nat) : s.jump (w % 4096) = s.jump w := by
  unfold Sz36.St.jump
  rw [Nat.mod_mod]
theorem ok_jump (T : Txt K mg A) : FnOk P w K mg base CX0 2 A.a_jump A.d_jump ["machine", "word"] (sp_ins A.c_Machine 1) := by
  have G_go_to : FnOk P w K mg base CX0 _ _ _ _ _ := ok_go_to T
  refine T.f_jump.ok sc_jump (fun vs H Q E h => ?_) (fun cdv A' outer s H vs Q E hr h => ?_)
  · obtain ⟨p, dx, a, m, st, n, rfl, _⟩ := h; rfl
  · obtain ⟨p, dx, a, m, st, n, rfl, M, hR, hn, hd, h⟩ := h
    refine ⟨_, (pss_one (ps_ret (pe_call G_go_to (hr.mono (by decide)) rfl T.g_go_to T.f_go_to.kp T.b_go_to .nil pass0 (pa_cons (pv 0) (pa_cons (pv 1) pa_nil))))), ?_⟩
    have fx := M.facts
    have tx := T.z_Machine
    have e : Sz36.act st n = .ok (st.jump n) := by
      unfold Sz36.act
      simp only [hd]
      rw [mod_jump]
    have h := h.ok e
    walk_at "rd"
    exact ⟨p, dx, a, m, st, n, rfl, M, hR, h⟩
theorem ok_jump_and_come_back (T : Txt K mg A) : FnOk P w K mg base CX0 2 A.a_jump_and_come_back A.d_jump_and_come_back ["machine", "word"] (sp_ins A.c_Machine 2) := by
  have G_go_to : FnOk P w K mg base CX0 _ _ _ _ _ := ok_go_to T
  refine T.f_jump_and_come_back.ok sc_jump_and_come_back (fun vs H Q E h => ?_) (fun cdv A' outer s H vs Q E hr h => ?_)
  · obtain ⟨p, dx, a, m, st, n, rfl, _⟩ := h; rfl
  · obtain ⟨p, dx, a, m, st, n, rfl, M, hR, hn, hd, h⟩ := h
    refine ⟨_, (pss_cons (ps_if (pt_cmpR op_eq (pe_callB call_len_seq rfl T.n_len PySem.boot_len (pa_cons (pe_fld (pv 0) rfl) pa_nil)) (pe_gint rfl T.g_PLACE_COUNT) (nomark _)) (pss_one (ps_ret (pe_gint rfl T.g_WRONG_PLACES))) pss_nil) (pss_cons (ps_expr (pe_bm PySem.F.plainAttrs_list PySem.F.slot_list_append PySem.F.type_list_append mt_append (pe_fld (pv 0) rfl) (pa_cons (pe_fld (pv 0) rfl) pa_nil))) (pss_one (ps_ret (pe_call G_go_to (hr.mono (by decide)) rfl T.g_go_to T.f_go_to.kp T.b_go_to .nil pass0 (pa_cons (pv 0) (pa_cons (pv 1) pa_nil))))))), ?_⟩
    have fx := M.facts
    have tx := T.z_Machine
    have e : Sz36.act st n = if 16 ≤ st.back_.length then .error 3 else .ok (({ st with back_ := st.pc :: st.back_ } : Sz36.St).jump n) := by
      unfold Sz36.act
      simp only [hd]
      rw [mod_jump]
    rw [e] at h
    walk_at "rd"
    refine ⟨_, .inl (SqL.of M.places), ?_⟩
    rw [List.length_map, hR.placesLen]
    have hl := hR.placesL
    refine ite2 (fun e => ?_) fun e => ?_
    · rw [if_pos (by omega)] at h
      exact h.stop rfl H (by decide) (.refl M)
    · rw [if_neg (by omega)] at h
      have h := h.ok rfl
      refine ⟨_, rfl, p, A.c_Machine, dx, _, _, rfl, M.ob, T.cl_Machine, T.x_Machine_places, lk_places _ _, .inl ⟨rfl, _, SqL.of M.places⟩, _, rfl, p, A.c_Machine, dx, _, _, rfl, M.ob, T.cl_Machine, T.x_Machine_pc, lk_pc _ _, a.places, _, _, rfl, rfl, M.places, ?_, ?_⟩
      · rw [List.length_map, hR.placesLen]
        show _ < 16777216
        omega
      · have e2 : (m.places.map V.int) ++ [V.int m.pc] = (m.places ++ [m.pc]).map V.int := by simp
        rw [e2]
        refine ⟨p, dx, a, _, _, n, rfl, M.setPlaces _, hR.push (by omega), ?_⟩
        exact h.on (.same (M.setPlaces _) (Frm.set _ (by simp [MA.all]))) rfl
theorem dec_mod (a n : Nat) : decide ((a : Int) = (n : Int) % 256) = (a == n % 256) := by
  rw [Bool.eq_iff_iff, decide_eq_true_eq, beq_iff_eq]
  omega
theorem dec_nat (a n : Nat) : decide ((a : Int) = (n : Int)) = (a == n) := by
  rw [Bool.eq_iff_iff, decide_eq_true_eq, beq_iff_eq]
  omega
theorem ok_pass_if_number (T : Txt K mg A) : FnOk P w K mg base CX0 3 A.a_pass_if_number A.d_pass_if_number ["machine", "word"] (sp_ins A.c_Machine 3) := by
  have G_pass_over_if : FnOk P w K mg base CX0 _ _ _ _ _ := ok_pass_over_if T
  have G_value_x : FnOk P w K mg base CX0 _ _ _ _ _ := ok_value_x T
  refine T.f_pass_if_number.ok sc_pass_if_number (fun vs H Q E h => ?_) (fun cdv A' outer s H vs Q E hr h => ?_)
  · obtain ⟨p, dx, a, m, st, n, rfl, _⟩ := h; rfl
  · obtain ⟨p, dx, a, m, st, n, rfl, M, hR, hn, hd, h⟩ := h
    refine ⟨_, (pss_one (ps_ret (pe_call G_pass_over_if (hr.mono (by decide)) rfl T.g_pass_over_if T.f_pass_over_if.kp T.b_pass_over_if .nil pass0 (pa_cons (pv 0) (pa_cons (pe_cmpR op_eq (pe_call G_value_x (hr.mono (by decide)) rfl T.g_value_x T.f_value_x.kp T.b_value_x .nil pass0 (pa_cons (pv 0) (pa_cons (pv 1) pa_nil))) (pe_op op_mod (pv 1) pe_int) (nomark _)) pa_nil))))), ?_⟩
    have fx := M.facts
    have tx := T.z_Machine
    have e : Sz36.act st n = .ok (st.skip (st.reg (n / 256 % 16) == n % 256)) := by
      unfold Sz36.act
      simp only [hd]
    have h := h.ok e
    unfold sp_value_x
    walk_at "rd"
    refine ⟨dx, a, m, st, n, rfl, M, hR, by decide, p, dx, a, m, st, _, rfl, M, hR, ?_⟩
    rw [dec_mod]
    exact h
theorem ok_pass_if_not_number (T : Txt K mg A) : FnOk P w K mg base CX0 3 A.a_pass_if_not_number A.d_pass_if_not_number ["machine", "word"] (sp_ins A.c_Machine 4) := by
  have G_pass_over_if : FnOk P w K mg base CX0 _ _ _ _ _ := ok_pass_over_if T
  have G_value_x : FnOk P w K mg base CX0 _ _ _ _ _ := ok_value_x T
  refine T.f_pass_if_not_number.ok sc_pass_if_not_number (fun vs H Q E h => ?_) (fun cdv A' outer s H vs Q E hr h => ?_)
  · obtain ⟨p, dx, a, m, st, n, rfl, _⟩ := h; rfl
  · obtain ⟨p, dx, a, m, st, n, rfl, M, hR, hn, hd, h⟩ := h
    refine ⟨_, (pss_one (ps_ret (pe_call G_pass_over_if (hr.mono (by decide)) rfl T.g_pass_over_if T.f_pass_over_if.kp T.b_pass_over_if .nil pass0 (pa_cons (pv 0) (pa_cons (pe_cmpR op_ne (pe_call G_value_x (hr.mono (by decide)) rfl T.g_value_x T.f_value_x.kp T.b_value_x .nil pass0 (pa_cons (pv 0) (pa_cons (pv 1) pa_nil))) (pe_op op_mod (pv 1) pe_int) (nomark _)) pa_nil))))), ?_⟩
    have fx := M.facts
    have tx := T.z_Machine
    have e : Sz36.act st n = .ok (st.skip (st.reg (n / 256 % 16) != n % 256)) := by
      unfold Sz36.act
      simp only [hd]
    have h := h.ok e
    unfold sp_value_x
    walk_at "rd"
    refine ⟨dx, a, m, st, n, rfl, M, hR, by decide, p, dx, a, m, st, _, rfl, M, hR, ?_⟩
    rw [dec_mod]
    exact h
theorem ok_pass_if_equal (T : Txt K mg A) : FnOk P w K mg base CX0 3 A.a_pass_if_equal A.d_pass_if_equal ["machine", "word"] (sp_ins A.c_Machine 5) := by
  have G_pass_over_if : FnOk P w K mg base CX0 _ _ _ _ _ := ok_pass_over_if T
  have G_value_x : FnOk P w K mg base CX0 _ _ _ _ _ := ok_value_x T
  have G_value_y : FnOk P w K mg base CX0 _ _ _ _ _ := ok_value_y T
  refine T.f_pass_if_equal.ok sc_pass_if_equal (fun vs H Q E h => ?_) (fun cdv A' outer s H vs Q E hr h => ?_)
  · obtain ⟨p, dx, a, m, st, n, rfl, _⟩ := h; rfl
  · obtain ⟨p, dx, a, m, st, n, rfl, M, hR, hn, hd, h⟩ := h
    refine ⟨_, (pss_cons (ps_if (pt_cmpR op_ne (pe_op op_mod (pv 1) pe_int) pe_int (nomark _)) (pss_one (ps_ret (pe_gint rfl T.g_UNKNOWN))) pss_nil) (pss_one (ps_ret (pe_call G_pass_over_if (hr.mono (by decide)) rfl T.g_pass_over_if T.f_pass_over_if.kp T.b_pass_over_if .nil pass0 (pa_cons (pv 0) (pa_cons (pe_cmpR op_eq (pe_call G_value_x (hr.mono (by decide)) rfl T.g_value_x T.f_value_x.kp T.b_value_x .nil pass0 (pa_cons (pv 0) (pa_cons (pv 1) pa_nil))) (pe_call G_value_y (hr.mono (by decide)) rfl T.g_value_y T.f_value_y.kp T.b_value_y .nil pass0 (pa_cons (pv 0) (pa_cons (pv 1) pa_nil))) (nomark _)) pa_nil)))))), ?_⟩
    have fx := M.facts
    have tx := T.z_Machine
    have e : Sz36.act st n = if n % 16 = 0 then .ok (st.skip (st.reg (n / 256 % 16) == st.reg (n / 16 % 16))) else .error 1 := by
      unfold Sz36.act
      simp only [hd]
    rw [e] at h
    unfold sp_value_x sp_value_y
    walk_at "rd"
    refine ⟨by decide, ite2 (fun e => ?_) fun e => ?_⟩
    · have e : ¬ (n : Int) % 16 = 0 := by simpa using e
      exact h.stop (if_neg (by omega)) H (by decide) (.refl M)
    · have e : (n : Int) % 16 = 0 := by simpa using e
      have h := h.ok (if_pos (by omega))
      refine ⟨dx, a, m, st, n, rfl, M, hR, dx, a, m, st, n, rfl, M, hR, p, dx, a, m, st, _, rfl, M, hR, ?_⟩
      rw [dec_nat]
      exact h
theorem ok_pass_if_unequal (T : Txt K mg A) : FnOk P w K mg base CX0 3 A.a_pass_if_unequal A.d_pass_if_unequal ["machine", "word"] (sp_ins A.c_Machine 9) := by
  have G_pass_over_if : FnOk P w K mg base CX0 _ _ _ _ _ := ok_pass_over_if T
  have G_value_x : FnOk P w K mg base CX0 _ _ _ _ _ := ok_value_x T
  have G_value_y : FnOk P w K mg base CX0 _ _ _ _ _ := ok_value_y T
  refine T.f_pass_if_unequal.ok sc_pass_if_unequal (fun vs H Q E h => ?_) (fun cdv A' outer s H vs Q E hr h => ?_)
  · obtain ⟨p, dx, a, m, st, n, rfl, _⟩ := h; rfl
  · obtain ⟨p, dx, a, m, st, n, rfl, M, hR, hn, hd, h⟩ := h
    refine ⟨_, (pss_cons (ps_if (pt_cmpR op_ne (pe_op op_mod (pv 1) pe_int) pe_int (nomark _)) (pss_one (ps_ret (pe_gint rfl T.g_UNKNOWN))) pss_nil) (pss_one (ps_ret (pe_call G_pass_over_if (hr.mono (by decide)) rfl T.g_pass_over_if T.f_pass_over_if.kp T.b_pass_over_if .nil pass0 (pa_cons (pv 0) (pa_cons (pe_cmpR op_ne (pe_call G_value_x (hr.mono (by decide)) rfl T.g_value_x T.f_value_x.kp T.b_value_x .nil pass0 (pa_cons (pv 0) (pa_cons (pv 1) pa_nil))) (pe_call G_value_y (hr.mono (by decide)) rfl T.g_value_y T.f_value_y.kp T.b_value_y .nil pass0 (pa_cons (pv 0) (pa_cons (pv 1) pa_nil))) (nomark _)) pa_nil)))))), ?_⟩
    have fx := M.facts
    have tx := T.z_Machine
    have e : Sz36.act st n = if n % 16 = 0 then .ok (st.skip (st.reg (n / 256 % 16) != st.reg (n / 16 % 16))) else .error 1 := by
      unfold Sz36.act
      simp only [hd]
    rw [e] at h
    unfold sp_value_x sp_value_y
    walk_at "rd"
    refine ⟨by decide, ite2 (fun e => ?_) fun e => ?_⟩
    · have e : ¬ (n : Int) % 16 = 0 := by simpa using e
      exact h.stop (if_neg (by omega)) H (by decide) (.refl M)
    · have e : (n : Int) % 16 = 0 := by simpa using e
      have h := h.ok (if_pos (by omega))
      refine ⟨dx, a, m, st, n, rfl, M, hR, dx, a, m, st, n, rfl, M, hR, p, dx, a, m, st, _, rfl, M, hR, ?_⟩
      rw [dec_nat]
      exact h
theorem ok_put_number (T : Txt K mg A) : FnOk P w K mg base CX0 2 A.a_put_number A.d_put_number ["machine", "word"] (sp_ins A.c_Machine 6) := by
  have G_digit_x : FnOk P w K mg base CX0 _ _ _ _ _ := ok_digit_x T
  refine T.f_put_number.ok sc_put_number (fun vs H Q E h => ?_) (fun cdv A' outer s H vs Q E hr h => ?_)
  · obtain ⟨p, dx, a, m, st, n, rfl, _⟩ := h; rfl
  · obtain ⟨p, dx, a, m, st, n, rfl, M, hR, hn, hd, h⟩ := h
    refine ⟨_, (pss_cons (ps_asg (pe_op op_mod (pv 1) pe_int) (pg_sub (pe_fld (pv 0) rfl) (pe_call G_digit_x (hr.mono (by decide)) rfl T.g_digit_x T.f_digit_x.kp T.b_digit_x .nil pass0 (pa_cons (pv 1) pa_nil)) set_list)) (pss_one (ps_ret (pe_gint rfl T.g_GOES_ON)))), ?_⟩
    have fx := M.facts
    have tx := T.z_Machine
    have e : Sz36.act st n = .ok (st.set (n / 256 % 16) (n % 256)) := by
      unfold Sz36.act
      simp only [hd]
    have h := h.ok e
    unfold sp_digit_x
    walk_at "rd"
    refine ⟨by decide, n, rfl, n / 256 % 16, ixZ rfl (by rw [hR.regsLen]; omega), ?_⟩
    rw [show (n : Int) % 256 = ((n % 256 : Nat) : Int) by omega]
    exact h _ a _ (.same (M.setRegs _) (Frm.set _ (by simp [MA.all]))) (hR.setB (by omega) (by omega)) rfl
theorem ok_add_number (T : Txt K mg A) : FnOk P w K mg base CX0 3 A.a_add_number A.d_add_number ["machine", "word"] (sp_ins A.c_Machine 7) := by
  have G_digit_x : FnOk P w K mg base CX0 _ _ _ _ _ := ok_digit_x T
  have G_value_x : FnOk P w K mg base CX0 _ _ _ _ _ := ok_value_x T
  refine T.f_add_number.ok sc_add_number (fun vs H Q E h => ?_) (fun cdv A' outer s H vs Q E hr h => ?_)
  · obtain ⟨p, dx, a, m, st, n, rfl, _⟩ := h; rfl
  · obtain ⟨p, dx, a, m, st, n, rfl, M, hR, hn, hd, h⟩ := h
    refine ⟨_, (pss_cons (ps_asg (pe_op op_mod (pe_op op_add (pe_call G_value_x (hr.mono (by decide)) rfl T.g_value_x T.f_value_x.kp T.b_value_x .nil pass0 (pa_cons (pv 0) (pa_cons (pv 1) pa_nil))) (pe_op op_mod (pv 1) pe_int)) (pe_gint rfl T.g_BYTE_COUNT)) (pg_sub (pe_fld (pv 0) rfl) (pe_call G_digit_x (hr.mono (by decide)) rfl T.g_digit_x T.f_digit_x.kp T.b_digit_x .nil pass0 (pa_cons (pv 1) pa_nil)) set_list)) (pss_one (ps_ret (pe_gint rfl T.g_GOES_ON)))), ?_⟩
    have fx := M.facts
    have tx := T.z_Machine
    have e : Sz36.act st n = .ok (st.set (n / 256 % 16) (st.reg (n / 256 % 16) + n % 256)) := by
      unfold Sz36.act
      simp only [hd]
    have h := h.ok e
    unfold sp_digit_x sp_value_x
    walk_at "rd"
    refine ⟨dx, a, m, st, n, rfl, M, hR, by decide, by decide, n, rfl, n / 256 % 16, ixZ rfl (by rw [hR.regsLen]; omega), ?_⟩
    rw [show (((st.reg (n / 256 % 16) : Nat) : Int) + (n : Int) % 256) % 256 = (((st.reg (n / 256 % 16) + n % 256) % 256 : Nat) : Int) by omega]
    exact h _ a _ (.same (M.setRegs _) (Frm.set _ (by simp [MA.all]))) (hR.set (by omega) _) rfl
theorem ok_do_calculation (T : Txt K mg A) : FnOk P w K mg base CX0 4 A.a_do_calculation A.d_do_calculation ["machine", "word"] (sp_ins A.c_Machine 8) := by
  have G_calculate : FnOk P w K mg base CX0 _ _ _ _ _ := ok_calculate T
  have G_digit_x : FnOk P w K mg base CX0 _ _ _ _ _ := ok_digit_x T
  have G_digit_y : FnOk P w K mg base CX0 _ _ _ _ _ := ok_digit_y T
  refine T.f_do_calculation.ok sc_do_calculation (fun vs H Q E h => ?_) (fun cdv A' outer s H vs Q E hr h => ?_)
  · obtain ⟨p, dx, a, m, st, n, rfl, _⟩ := h; rfl
  · obtain ⟨p, dx, a, m, st, n, rfl, M, hR, hn, hd, h⟩ := h
    refine ⟨_, (pss_one (ps_ret (pe_call G_calculate (hr.mono (by decide)) rfl T.g_calculate T.f_calculate.kp T.b_calculate .nil pass0 (pa_cons (pv 0) (pa_cons (pe_call G_digit_x (hr.mono (by decide)) rfl T.g_digit_x T.f_digit_x.kp T.b_digit_x .nil pass0 (pa_cons (pv 1) pa_nil)) (pa_cons (pe_call G_digit_y (hr.mono (by decide)) rfl T.g_digit_y T.f_digit_y.kp T.b_digit_y .nil pass0 (pa_cons (pv 1) pa_nil)) (pa_cons (pe_op op_mod (pv 1) pe_int) pa_nil))))))), ?_⟩
    have fx := M.facts
    have tx := T.z_Machine
    have e : Sz36.act st n = act8 st (n / 256 % 16) (n / 16 % 16) (n % 16) := by
      unfold Sz36.act
      simp only [hd]
      rfl
    rw [e] at h
    unfold sp_digit_x sp_digit_y
    walk_at "rd"
    refine ⟨n, rfl, n, rfl, by decide, p, dx, a, m, st, n / 256 % 16, n / 16 % 16, n % 16, ?_, M, hR, by omega, by omega, by omega, h⟩
    rw [show (n : Int) % 16 = ((n % 16 : Nat) : Int) by omega]
theorem ok_put_i (T : Txt K mg A) : FnOk P w K mg base CX0 1 A.a_put_i A.d_put_i ["machine", "word"] (sp_ins A.c_Machine 10) := by
  refine T.f_put_i.ok sc_put_i (fun vs H Q E h => ?_) (fun cdv A' outer s H vs Q E hr h => ?_)
  · obtain ⟨p, dx, a, m, st, n, rfl, _⟩ := h; rfl
  · obtain ⟨p, dx, a, m, st, n, rfl, M, hR, hn, hd, h⟩ := h
    refine ⟨_, (pss_cons (ps_fld (pv 0) (pe_op op_mod (pv 1) pe_int) rfl) (pss_one (ps_ret (pe_gint rfl T.g_GOES_ON)))), ?_⟩
    have fx := M.facts
    have tx := T.z_Machine
    have e : Sz36.act st n = .ok { st with i := n % 4096 } := by
      unfold Sz36.act
      simp only [hd]
    have h := h.ok e
    walk_at "rd"
    refine ⟨by decide, ?_⟩
    rw [show (n : Int) % 4096 = ((n % 4096 : Nat) : Int) by omega]
    exact h _ a _ (.same (MAt.put M _ (by exact ⟨rfl, rfl, rfl, rfl, rfl, rfl⟩)) (Frm.put H _)) (hR.setI (by omega)) rfl
theorem ok_jump_further (T : Txt K mg A) : FnOk P w K mg base CX0 2 A.a_jump_further A.d_jump_further ["machine", "word"] (sp_ins A.c_Machine 11) := by
  have G_go_to : FnOk P w K mg base CX0 _ _ _ _ _ := ok_go_to T
  refine T.f_jump_further.ok sc_jump_further (fun vs H Q E h => ?_) (fun cdv A' outer s H vs Q E hr h => ?_)
  · obtain ⟨p, dx, a, m, st, n, rfl, _⟩ := h; rfl
  · obtain ⟨p, dx, a, m, st, n, rfl, M, hR, hn, hd, h⟩ := h
    refine ⟨_, (pss_one (ps_ret (pe_call G_go_to (hr.mono (by decide)) rfl T.g_go_to T.f_go_to.kp T.b_go_to .nil pass0 (pa_cons (pv 0) (pa_cons (pe_op op_add (pe_op op_mod (pv 1) pe_int) (pe_ix ix_list (pe_fld (pv 0) rfl) pe_int (fun _ _ => rfl))) pa_nil))))), ?_⟩
    have fx := M.facts
    have tx := T.z_Machine
    have e : Sz36.act st n = .ok (st.jump (n % 4096 + st.reg 0)) := by
      unfold Sz36.act
      simp only [hd]
    have h := h.ok e
    walk_at "rd"
    refine ⟨by decide, _, SqL.of M.regs, _, atZ (j := 0) rfl (hR.reg (by decide)), _, rfl, p, dx, a, m, st, n % 4096 + st.reg 0, ?_, M, hR, h⟩
    rw [show (n : Int) % 4096 + ((st.reg 0 : Nat) : Int) = ((n % 4096 + st.reg 0 : Nat) : Int) by omega]
theorem ok_take_chance (T : Txt K mg A) : FnOk P w K mg base CX0 2 A.a_take_chance A.d_take_chance ["machine", "word"] (sp_ins A.c_Machine 12) := by
  have G_digit_x : FnOk P w K mg base CX0 _ _ _ _ _ := ok_digit_x T
  have G_next_chance : FnOk P w K mg base CX0 _ _ _ _ _ := ok_next_chance T
  refine T.f_take_chance.ok sc_take_chance (fun vs H Q E h => ?_) (fun cdv A' outer s H vs Q E hr h => ?_)
  · obtain ⟨p, dx, a, m, st, n, rfl, _⟩ := h; rfl
  · obtain ⟨p, dx, a, m, st, n, rfl, M, hR, hn, hd, h⟩ := h
    refine ⟨_, (pss_cons (ps_fld (pv 0) (pe_call G_next_chance (hr.mono (by decide)) rfl T.g_next_chance T.f_next_chance.kp T.b_next_chance .nil pass0 (pa_cons (pe_fld (pv 0) rfl) pa_nil)) rfl) (pss_cons (ps_asg (pe_op op_and (pe_fld (pv 0) rfl) (pe_op op_mod (pv 1) pe_int)) (pg_sub (pe_fld (pv 0) rfl) (pe_call G_digit_x (hr.mono (by decide)) rfl T.g_digit_x T.f_digit_x.kp T.b_digit_x .nil pass0 (pa_cons (pv 1) pa_nil)) set_list)) (pss_one (ps_ret (pe_gint rfl T.g_GOES_ON))))), ?_⟩
    have fx := M.facts
    have tx := T.z_Machine
    have e : Sz36.act st n = .ok (({ st with chance := Sz36.next st.chance } : Sz36.St).set (n / 256 % 16) (Sz36.next st.chance % 256 &&& n % 256)) := by
      unfold Sz36.act
      simp only [hd]
    have h := h.ok e
    unfold sp_digit_x sp_next_chance
    walk_at "rd"
    have M1 := MAt.put M { m with chance := ((Sz36.next st.chance : Nat) : Int) } (by exact ⟨rfl, rfl, rfl, rfl, rfl, rfl⟩)
    have hR1 := hR.setChance (next_eq hR.chanceB).2
    refine ⟨st.chance, hR.chance, hR.chanceB, by decide, n, rfl, _, M1.regs, n / 256 % 16, ixZ rfl (by rw [List.length_map]; show _ < m.regs.length; rw [hR.regsLen]; omega), ?_⟩
    have e5 : Builtin.bitAnd ((Sz36.next st.chance : Nat) : Int) ((n : Int) % 256) = ((Sz36.next st.chance % 256 &&& n % 256 : Nat) : Int) := by
      rw [show (n : Int) % 256 = ((n % 256 : Nat) : Int) by omega, bAnd]
      have q1 := Nat.and_mod_two_pow (a := Sz36.next st.chance) (b := n % 256) (n := 8)
      have q2 : Sz36.next st.chance &&& n % 256 < 256 := Nat.lt_of_le_of_lt Nat.and_le_right (by omega)
      rw [show (2 ^ 8 : Nat) = 256 by decide, Nat.mod_eq_of_lt q2, Nat.mod_mod] at q1
      rw [q1]
    have hlt : Sz36.next st.chance % 256 &&& n % 256 < 256 := Nat.lt_of_le_of_lt Nat.and_le_right (by omega)
    rw [e5, ← List.map_set]
    exact h _ a _ (.same (M1.setRegs _) ((Frm.put H _).trans (Frm.set _ (by simp [MA.all])))) (hR1.setB (by omega) hlt) rfl
theorem ok_pass_by_key (T : Txt K mg A) : FnOk P w K mg base CX0 3 A.a_pass_by_key A.d_pass_by_key ["machine", "word"] (sp_ins A.c_Machine 14) := by
  have G_pass_over_if : FnOk P w K mg base CX0 _ _ _ _ _ := ok_pass_over_if T
  have G_value_x : FnOk P w K mg base CX0 _ _ _ _ _ := ok_value_x T
  refine T.f_pass_by_key.ok sc_pass_by_key (fun vs H Q E h => ?_) (fun cdv A' outer s H vs Q E hr h => ?_)
  · obtain ⟨p, dx, a, m, st, n, rfl, _⟩ := h; rfl
  · obtain ⟨p, dx, a, m, st, n, rfl, M, hR, hn, hd, h⟩ := h
    refine ⟨_, (pss_cons (ps_set (i := 2) sc_pass_by_key.nd rfl (Or.inl rfl) (pe_ix ix_list (pe_fld (pv 0) rfl) (pe_op op_mod (pe_call G_value_x (hr.mono (by decide)) rfl T.g_value_x T.f_value_x.kp T.b_value_x .nil pass0 (pa_cons (pv 0) (pa_cons (pv 1) pa_nil))) (pe_gint rfl T.g_KEY_COUNT)) (fun _ _ => rfl))) (pss_cons (ps_if (pt_cmpR op_eq (pe_op op_mod (pv 1) pe_int) pe_int (nomark _)) (pss_one (ps_ret (pe_call G_pass_over_if (hr.mono (by decide)) rfl T.g_pass_over_if T.f_pass_over_if.kp T.b_pass_over_if .nil pass0 (pa_cons (pv 0) (pa_cons (pe_cmpR op_eq (pv 2) pe_int (nomark _)) pa_nil))))) pss_nil) (pss_cons (ps_if (pt_cmpR op_eq (pe_op op_mod (pv 1) pe_int) pe_int (nomark _)) (pss_one (ps_ret (pe_call G_pass_over_if (hr.mono (by decide)) rfl T.g_pass_over_if T.f_pass_over_if.kp T.b_pass_over_if .nil pass0 (pa_cons (pv 0) (pa_cons (pe_cmpR op_eq (pv 2) pe_int (nomark _)) pa_nil))))) pss_nil) (pss_one (ps_ret (pe_gint rfl T.g_UNKNOWN)))))), ?_⟩
    have fx := M.facts
    have tx := T.z_Machine
    have e : Sz36.act st n = if n % 256 = 0x9E then .ok (st.skip (st.keys (st.reg (n / 256 % 16) % 16))) else if n % 256 = 0xA1 then .ok (st.skip (!st.keys (st.reg (n / 256 % 16) % 16))) else .error 1 := by
      unfold Sz36.act
      simp only [hd]
    rw [e] at h
    unfold sp_value_x
    walk_at "rd"
    have k1 : ∀ b : Bool, decide (V.int (if b = true then 1 else 0) = V.int 1) = b := fun b => by cases b <;> simp
    have k0 : ∀ b : Bool, decide (V.int (if b = true then 1 else 0) = V.int 0) = !b := fun b => by cases b <;> simp
    refine ⟨dx, a, m, st, n, rfl, M, hR, by decide, _, SqL.of M.pressed, _, atZ (j := st.reg (n / 256 % 16) % 16) (by omega) (hR.keyAt (by omega)), by decide, ite2 (fun e => ⟨rfl, ?_⟩) fun e => ⟨by decide, ite2 (fun e' => ⟨rfl, ?_⟩) fun e' => ?_⟩⟩
    · rw [k1]
      exact ⟨p, dx, a, m, st, _, rfl, M, hR, h.ok (if_pos (by omega))⟩
    · rw [k0]
      refine ⟨p, dx, a, m, st, _, rfl, M, hR, h.ok ?_⟩
      rw [if_neg (by omega), if_pos (by omega)]
    · refine h.stop ?_ H (by decide) (.refl M)
      rw [if_neg (by omega), if_neg (by omega)]
theorem ok_do_transfer (T : Txt K mg A) : FnOk P w K mg base CX0 3 A.a_do_transfer A.d_do_transfer ["machine", "word"] (sp_ins A.c_Machine 15) := by
  have G_digit_x : FnOk P w K mg base CX0 _ _ _ _ _ := ok_digit_x T
  have G_transfer : FnOk P w K mg base CX0 _ _ _ _ _ := ok_transfer T
  refine T.f_do_transfer.ok sc_do_transfer (fun vs H Q E h => ?_) (fun cdv A' outer s H vs Q E hr h => ?_)
  · obtain ⟨p, dx, a, m, st, n, rfl, _⟩ := h; rfl
  · obtain ⟨p, dx, a, m, st, n, rfl, M, hR, hn, hd, h⟩ := h
    refine ⟨_, (pss_one (ps_ret (pe_call G_transfer (hr.mono (by decide)) rfl T.g_transfer T.f_transfer.kp T.b_transfer .nil pass0 (pa_cons (pv 0) (pa_cons (pe_call G_digit_x (hr.mono (by decide)) rfl T.g_digit_x T.f_digit_x.kp T.b_digit_x .nil pass0 (pa_cons (pv 1) pa_nil)) (pa_cons (pe_op op_mod (pv 1) pe_int) pa_nil)))))), ?_⟩
    have fx := M.facts
    have tx := T.z_Machine
    rw [act_F hd] at h
    unfold sp_digit_x
    walk_at "rd"
    refine ⟨n, rfl, by decide, p, dx, a, m, st, n / 256 % 16, n % 256, ?_, M, hR, by omega, h⟩
    rw [show (n : Int) % 256 = ((n % 256 : Nat) : Int) by omega]
end
end Sg
end
section
set_option Elab.async false
set_option linter.all false
set_option maxRecDepth 100000
set_option maxHeartbeats 2000000
set_option hygiene false
namespace Sg
open PySem PySem.Spec PyProof.Rows L2
local macro_rules | `(tactic| walk_at "rd") => `(tactic| simp only [tRet, tRetN, tIf, tIfS, tTest, tOp, tUn, tVar, tC, tSeq, tAsg, gName, tDrop, tNext, tFld, sFld, sFldAug, tCall, tMeth, tCB, tCons, tNil, tLst, tTup, tAnd, tOr, tNot, tAndV, tOrV, tNotV, tSl, tPart, tNoPart, rU, rI, rI0, rEq, rNe, rAdd, rSub, rIxL, rSetL, gSub, start_def, scal_ii, scal_bb, cxOf_K, List.map_cons, List.map_nil, List.cons_append, List.nil_append, List.append_nil, List.length_cons, List.length_nil, Nat.reduceAdd, Nat.reduceSub, List.replicate_succ, List.replicate_zero, List.getElem?_cons_zero, List.getElem?_cons_succ, List.set_cons_zero, List.set_cons_succ, Option.some.injEq, V.int.injEq, V.ref.injEq, V.bl.injEq, HO.ins.injEq, HO.lst.injEq, exists_eq_left, exists_eq_left', exists_and_left, and_assoc, true_and, and_true, decide_eq_true_eq, mf_len, lk_numbers, lk_place, lk_take, pt_place, rf_len, lk_mem, lk_regs, lk_aside, lk_i, lk_pc, lk_places, lk_wait, lk_sound, lk_pressed, lk_chance, lk_large, lk_rows, lk_why, pt_why, pt_mem, pt_rows, tIxK, tCallV, pt_i, pt_pc, pt_wait, pt_sound, pt_chance, pt_large, upd_same, upd_upd, List.cons.injEq, ite_true, ite_false, eq_self, Int.reduceEq, Int.reduceNeg, decide_true, decide_false, reduceCtorEq, if_true, if_false, Bool.not_eq_true, Bool.not_true, Bool.not_false, Bool.true_eq_false, Bool.false_eq_true, ← List.map_set, List.length_map, ipI, ipC, tAug, tAugS, rGetL, rAppend, rExtend, rPop, rCat, rRep, gCons, gNil,  rSlL, truV_bl, truV_int, fx, tx])
local macro_rules | `(tactic| walk_at "nx") => `(tactic| try simp only [tSeq, tAsg, tIfS, tTest, tOp, rEq, rNe, tVar, tC, tNext, gName, tRet, tCall, tCons, tNil, scal_ii, start_def, List.map_cons, List.map_nil, List.cons_append, List.nil_append, List.append_nil, List.length_cons, List.length_nil, Nat.reduceAdd, Nat.reduceSub, List.replicate_succ, List.replicate_zero, List.getElem?_cons_zero, List.getElem?_cons_succ, List.set_cons_zero, List.set_cons_succ, Option.some.injEq, V.ref.injEq, V.int.injEq, V.bl.injEq, exists_eq_left', exists_eq_left, exists_and_left, true_and, and_true, and_assoc, ite_true, ite_false, eq_self, Int.reduceEq, Int.reduceNeg, decide_true, decide_false, decide_eq_true_eq, reduceCtorEq, Bool.false_eq_true, if_true, if_false, ↓reduceIte, cxOf_K])
local macro_rules | `(tactic| walk_at "me") => `(tactic| simp only [tMeth, tVar, tNil, List.getElem?_cons_zero, List.getElem?_cons_succ, Option.some.injEq, V.ref.injEq, exists_eq_left', exists_eq_left, fx, HO.ins.injEq, exists_and_left, true_and, and_assoc, lk_take, lk_take_row, List.append_nil, List.nil_append])
section
variable {P : Program} {w : World} {K : PySem.W.Frag} {mg : Str → Option Value} {base : Heap} {A : Ad}
/-- a new list of ints: all else is as it was -/
def NewL (H : Hp) (xs : List Int) (Q : VK) : Prop := ∀ H1 l, H l = none → Same H H1 → H1 l = some (.lst (xs.map V.int)) → Q (.ref l) H1
def shapeL (st : Sz36.St) (big : Bool) (n : Nat) : List Int := (List.range n).map fun r => ((shapeRow st big r : Nat) : Int)
def sp_narrow_shape (C : Addr) : Sp := fun vs H Q _ => ∃ p dx a m st, ∃ n : Nat, vs = [.ref p, .int n] ∧ MAt C H p dx a m ∧ R m st ∧ n ≤ 16 ∧ NewL H (shapeL st false n) Q
theorem ok_narrow_shape (T : Txt K mg A) : FnOk P w K mg base CX0 1 A.a_narrow_shape A.d_narrow_shape ["machine", "row_count"] (sp_narrow_shape A.c_Machine) := by
  refine T.f_narrow_shape.ok sc_narrow_shape (fun vs H Q E h => ?_) (fun cdv A' outer s H vs Q E hr h => ?_)
  · obtain ⟨p, dx, a, m, st, n, rfl, _⟩ := h; rfl
  · obtain ⟨p, dx, a, m, st, n, rfl, M, hR, hn, h⟩ := h
    refine ⟨_, (pss_one (ps_ret (pe_lc (own := [("offset", 2)]) rfl sc_narrow_shape.nd (pi_range1 rfl T.n_range (pa_cons (pv 1) pa_nil)) (blkOk_by rfl) (fun _ _ _ _ _ => (pg_name (i := 2) sc_narrow_shape.nd rfl (Or.inl rfl))) (fun _ _ _ _ _ => pts_nil) (fun _ _ _ _ _ => (pe_ix (ix_listB (K := K) rfl) (pe_fldB (K := K) rfl (pv 0) rfl) (pe_op op_mod (pe_op op_add (pe_fldB (K := K) rfl (pv 0) rfl) (pv 2)) (pe_gint rfl T.g_MEMORY_SIZE)) (fun _ _ => rfl)))))), ?_⟩
    refine te_lcJ (J := Itr 0 n) (n := n) (g := fun i => 0 + (i : Int)) (f := fun r => ((shapeRow st false r : Nat) : Int)) (fun i H hi => hi) (fun i H x H' y => y) (fun i H hi => hi) (fun R r => ⟨_, rfl, (n : Int), rfl, by omega, by omega, r⟩) (by omega) (fun H' j Q' hj S q => ?_) _ h
    have M' := M.same S
    refine ⟨_, rfl, p, A.c_Machine, dx, _, _, rfl, M'.ob, T.cl_Machine, T.x_Machine_memory, lk_mem _ _, _, rfl, p, A.c_Machine, dx, _, _, rfl, M'.ob, T.cl_Machine, T.x_Machine_i, lk_i _ _, ?_⟩
    refine ⟨_, rfl, _, _, rfl, rfl, _, _, rfl, rfl, (show (0 : Int) < 4096 by decide), _, _, _, _, rfl, rfl, SqL.of M'.mem, atZ (j := (st.i + j) % 4096) ?_ (hR.memAt _), q⟩
    rw [hR.i]
    show (((st.i : Int) + (0 + (j : Int))) % 4096) = _
    omega
def sp_wide_shape (C : Addr) : Sp := fun vs H Q _ => ∃ p dx a m st, vs = [.ref p] ∧ MAt C H p dx a m ∧ R m st ∧ NewL H (shapeL st true 16) Q
theorem ok_wide_shape (T : Txt K mg A) : FnOk P w K mg base CX0 2 A.a_wide_shape A.d_wide_shape ["machine"] (sp_wide_shape A.c_Machine) := by
  have G_word_at : FnOk P w K mg base CX0 _ _ _ _ _ := ok_word_at T
  refine T.f_wide_shape.ok sc_wide_shape (fun vs H Q E h => ?_) (fun cdv A' outer s H vs Q E hr h => ?_)
  · obtain ⟨p, dx, a, m, st, rfl, _⟩ := h; rfl
  · obtain ⟨p, dx, a, m, st, rfl, M, hR, h⟩ := h
    refine ⟨_, (pss_one (ps_ret (pe_lc (own := [("offset", 1)]) rfl sc_wide_shape.nd (pi_range3 rfl T.n_range (pa_cons pe_int (pa_cons pe_int (pa_cons pe_int pa_nil)))) (blkOk_by rfl) (fun _ _ _ _ _ => (pg_name (i := 1) sc_wide_shape.nd rfl (Or.inl rfl))) (fun _ _ _ _ _ => pts_nil) (fun _ _ _ _ _ => (pe_call G_word_at (hr.mono (by decide)) rfl T.g_word_at T.f_word_at.kp T.b_word_at .nil pass0 (pa_cons (pv 0) (pa_cons (pe_op op_add (pe_fldB (K := K) rfl (pv 0) rfl) (pv 1)) pa_nil))))))), ?_⟩
    refine te_lcJ (J := Itc 0 2 16) (n := 16) (g := fun i => 0 + (i : Int) * 2) (f := fun r => ((shapeRow st true r : Nat) : Int)) (fun i H hi => hi) (fun i H x H' y => y) (fun i H hi => hi) (fun R r => ⟨0, 32, 2, 16, rfl, ⟨by decide, by decide, by decide, by decide⟩, r⟩) (by omega) (fun H' j Q' hj S q => ?_) _ h
    have M' := M.same S
    refine ⟨_, rfl, _, rfl, p, A.c_Machine, dx, _, _, rfl, M'.ob, T.cl_Machine, T.x_Machine_i, lk_i _ _, _, rfl, _, _, rfl, rfl, p, dx, a, m, st, st.i + 2 * j, ?_, M', hR, q⟩
    rw [hR.i]
    show [V.ref p, V.int ((st.i : Int) + (0 + (j : Int) * 2))] = _
    rw [show (st.i : Int) + (0 + (j : Int) * 2) = ((st.i + 2 * j : Nat) : Int) by omega]
def sp_lay_shape (C : Addr) : Sp := fun vs H Q _ => ∃ p dx a m st, ∃ x y n : Nat, ∃ big : Bool, ∃ l, vs = [.ref p, .int x, .int y, .ref l, .int ((if big = true then 16 else 8 : Nat) : Int)] ∧ MAt C H p dx a m ∧ R m st ∧ H l = some (.lst ((shapeL st big n).map V.int)) ∧ l ∉ a.all ∧
  ∀ H', Go C p dx H a H' a { m with rows := laidT st (x % Sz36.wide st) (y % Sz36.high st) big n } → Q (.int (if hits st (x % Sz36.wide st) (y % Sz36.high st) n big = true then 1 else 0)) H'
theorem ok_lay_shape (T : Txt K mg A) : FnOk P w K mg base CX0 2 A.a_lay_shape A.d_lay_shape ["machine", "x", "y", "shape", "shape_width"] (sp_lay_shape A.c_Machine) := by
  have G_fit_points : FnOk P w K mg base CX0 _ _ _ _ _ := ok_fit_points T
  have G_screen_width : FnOk P w K mg base CX0 _ _ _ _ _ := ok_screen_width T
  refine T.f_lay_shape.ok sc_lay_shape (fun vs H Q E h => ?_) (fun cdv A' outer s H vs Q E hr h => ?_)
  · obtain ⟨p, dx, a, m, st, x, y, n, big, l, rfl, _⟩ := h; rfl
  · obtain ⟨p, dx, a, m, st, x, y, n, big, l, rfl, M, hR, hl, hla, h⟩ := h
    refine ⟨_, (pss_cons (ps_set (i := 5) sc_lay_shape.nd rfl (Or.inl rfl) (pe_fld (pv 0) rfl)) (pss_cons (ps_set (i := 6) sc_lay_shape.nd rfl (Or.inl rfl) (pe_call G_screen_width (hr.mono (by decide)) rfl T.g_screen_width T.f_screen_width.kp T.b_screen_width .nil pass0 (pa_cons (pv 0) pa_nil))) (pss_cons (ps_set (i := 7) sc_lay_shape.nd rfl (Or.inl rfl) (pe_op op_sub (pv 6) (pe_op op_mod (pv 1) (pv 6)))) (pss_cons (ps_set (i := 8) sc_lay_shape.nd rfl (Or.inl rfl) (pe_op op_mod (pv 2) (pe_callB call_len_seq rfl T.n_len PySem.boot_len (pa_cons (pv 5) pa_nil)))) (pss_cons (ps_set (i := 9) sc_lay_shape.nd rfl (Or.inl rfl) pe_int) (pss_cons (ps_for PassesOwn.never rfl (pi_enum rfl T.n_enumerate (pa_cons (pv 3) pa_nil)) (pg_tup rfl (pgs_cons (pg_name (i := 10) sc_lay_shape.nd rfl (Or.inl rfl)) (pgs_cons (pg_name (i := 11) sc_lay_shape.nd rfl (Or.inl rfl)) pgs_nil))) (pss_one (ps_if (pt_cmpR op_lt (pe_op op_add (pv 8) (pv 10)) (pe_callB call_len_seq rfl T.n_len PySem.boot_len (pa_cons (pv 5) pa_nil)) (nomark _)) (pss_cons (ps_set (i := 12) sc_lay_shape.nd rfl (Or.inl rfl) (pe_call G_fit_points (hr.mono (by decide)) rfl T.g_fit_points T.f_fit_points.kp T.b_fit_points .nil pass0 (pa_cons (pv 11) (pa_cons (pv 4) (pa_cons (pv 7) pa_nil))))) (pss_cons (ps_set (i := 9) sc_lay_shape.nd rfl (Or.inl rfl) (pe_op op_or (pv 9) (pe_op op_and (pe_ix ix_list (pv 5) (pe_op op_add (pv 8) (pv 10)) (fun _ _ => rfl)) (pv 12)))) (pss_one (ps_asg (pe_op op_xor (pe_ix ix_list (pv 5) (pe_op op_add (pv 8) (pv 10)) (fun _ _ => rfl)) (pv 12)) (pg_sub (pv 5) (pe_op op_add (pv 8) (pv 10)) set_list))))) pss_nil))) (pss_one (ps_ret (pe_ifExp (pt_cmpR op_eq (pv 9) pe_int (nomark _)) pe_int pe_int))))))))), ?_⟩
    have fx := M.facts
    have tx := T.z_Machine
    unfold sp_screen_width
    walk_at "rd"
    have hw := wide_le st
    have hh := high_le st
    have hwp : 0 < Sz36.wide st := by omega
    have hhp : 0 < Sz36.high st := by omega
    refine ⟨dx, a, m, M, st, hR, by omega, _, .inl (SqL.of M.rows), ?_, ?_⟩
    · rw [List.length_map, hR.rowsLen]; omega
    have hx0 := Nat.mod_lt x hwp
    have hy0 := Nat.mod_lt y hhp
    rw [List.length_map, hR.rowsLen, ← Int.natCast_emod, ← Int.natCast_emod]
    generalize x % Sz36.wide st = x0 at h hx0 ⊢
    generalize y % Sz36.high st = y0 at h hy0 ⊢
    rw [show ((Sz36.wide st : Nat) : Int) - (x0 : Int) = ((Sz36.wide st - x0 : Nat) : Int) by omega]
    have e0 : ({ m with rows := laidT st x0 y0 big 0 } : MS) = m := by rw [laidT_zero, ← hR.rows]
    have lp : l ≠ p := ne_of hl M.ob (by intro q; cases q)
    refine ⟨_, rfl, l, _, rfl, SqL.of hl, for_enum (K := K) (a := l) (xs := (shapeL st big n).map V.int) (fun i σ H' => ∃ v10 v11 v12, ∃ g : Nat, σ = [some (V.ref p), some (V.int x), some (V.int y), some (V.ref l), some (V.int ((if big = true then 16 else 8 : Nat) : Int)), some (V.ref a.rows), some (V.int ((Sz36.wide st : Nat) : Int)), some (V.int ((Sz36.wide st - x0 : Nat) : Int)), some (V.int (y0 : Int)), some (V.int (g : Int)), v10, v11, v12] ∧ MAt A.c_Machine H' p dx a { m with rows := laidT st x0 y0 big i } ∧ Frm H H' p a ∧ (g != 0) = hits st x0 y0 i big) ⟨none, none, none, 0, rfl, by rw [e0]; exact M, Frm.refl _ _ _, by rw [hits_zero]; rfl⟩ (fun i σ H' _ ⟨_, _, _, _, _, _, F', _⟩ => SqL.of (F' l _ hl lp hla)) ?_ ?_⟩
    · rintro i z σ H' T' hi ⟨v10, v11, v12, g, rfl, M', F', hg⟩ hT
      have hi2 : i < n := by
        have := (List.getElem?_eq_some_iff.mp hi).1
        simpa [shapeL] using this
      have hz : z = V.int ((shapeRow st big i : Nat) : Int) := by
        rw [List.getElem?_map, shapeL, List.getElem?_map, List.getElem?_range hi2] at hi
        exact (Option.some.inj hi).symm
      subst hz
      have M1 := M'.new (o := .tup [.int (i : Nat), .int ((shapeRow st big i : Nat) : Int)]) hT
      have F1 := F'.trans (Frm.new (o := .tup [.int (i : Nat), .int ((shapeRow st big i : Nat) : Int)]) hT)
      have fx := M1.facts
      refine ⟨T', _, rfl, SqT.of upd_same, rfl, ?_⟩
      unfold sp_fit_points
      walk_at "rd"
      have hsb : shapeRow st big i < 65536 := by
        have q := shapeRow_lt hR big i
        cases big <;> simp at q <;> omega
      have hfit := fit_eq (b := shapeRow st big i) (n := if big = true then 16 else 8) hx0
      have ql := laidT_len st x0 y0 big i
      refine ⟨_, .inl (SqL.of M1.rows), ite2 (fun e => ?_) fun e => ?_⟩
      · have e2 : y0 + i < Sz36.high st := by
          simp only [List.length_map, ql] at e
          omega
        refine ⟨shapeRow st big i, rfl, _, rfl, _, rfl, hsb, by omega, _, SqL.of M1.rows, _, atZ (j := y0 + i) (by omega) (laidT_get st x0 y0 big e2), _, rfl, _, SqL.of M1.rows, _, atZ (j := y0 + i) (by omega) (laidT_get st x0 y0 big e2), _, rfl, y0 + i, ixZ (by omega) (by rw [ql]; exact e2), _, _, _, g ||| (rowOf st (y0 + i) &&& fitN (shapeRow st big i) (if big = true then 16 else 8) (Sz36.wide st - x0)), ?_, rfl, rfl, rfl, ?_, F1.trans (Frm.set _ (by simp [MA.all])), ?_⟩
        · rw [bAnd, bOr]
        · rw [bXor, hfit, laidT_in st x0 y0 big e2]
          exact M1.setRows _
        · rw [or_ne_zero, hg, hits_in _ _ _ _ e2, hfit]
      · have e2 : ¬ y0 + i < Sz36.high st := by
          simp only [List.length_map, ql] at e
          omega
        exact ⟨_, _, _, g, rfl, rfl, rfl, rfl, by rw [laidT_out st x0 y0 big e2]; exact M1, F1, by rw [hits_out st x0 y0 big e2]; exact hg⟩
    · rintro σ H' ⟨v10, v11, v12, g, rfl, M', F', hg⟩
      have en : (List.map V.int (shapeL st big n)).length = n := by simp [shapeL]
      rw [en] at M' hg
      walk_at "rd"
      have q := h H' (.same M' F')
      refine ite2 (fun e => ?_) fun e => ?_
      · have e2 : g = 0 := by omega
        rw [← hg, e2] at q
        exact q
      · have e2 : (g != 0) = true := by rw [bne_iff_ne]; omega
        rw [← hg, e2] at q
        exact q
theorem ok_draw (T : Txt K mg A) : FnOk P w K mg base CX0 3 A.a_draw A.d_draw ["machine", "word"] (sp_ins A.c_Machine 13) := by
  have G_lay_shape : FnOk P w K mg base CX0 _ _ _ _ _ := ok_lay_shape T
  have G_narrow_shape : FnOk P w K mg base CX0 _ _ _ _ _ := ok_narrow_shape T
  have G_value_x : FnOk P w K mg base CX0 _ _ _ _ _ := ok_value_x T
  have G_value_y : FnOk P w K mg base CX0 _ _ _ _ _ := ok_value_y T
  have G_wide_shape : FnOk P w K mg base CX0 _ _ _ _ _ := ok_wide_shape T
  refine T.f_draw.ok sc_draw (fun vs H Q E h => ?_) (fun cdv A' outer s H vs Q E hr h => ?_)
  · obtain ⟨p, dx, a, m, st, n, rfl, _⟩ := h; rfl
  · obtain ⟨p, dx, a, m, st, n, rfl, M, hR, hn, hd, h⟩ := h
    refine ⟨_, (pss_cons (ps_set (i := 2) sc_draw.nd rfl (Or.inl rfl) (pe_op op_mod (pv 1) pe_int)) (pss_cons (ps_set (i := 3) sc_draw.nd rfl (Or.inl rfl) (pe_ifExp (pt_cmpR op_eq (pv 2) pe_int (nomark _)) (pe_call G_wide_shape (hr.mono (by decide)) rfl T.g_wide_shape T.f_wide_shape.kp T.b_wide_shape .nil pass0 (pa_cons (pv 0) pa_nil)) (pe_call G_narrow_shape (hr.mono (by decide)) rfl T.g_narrow_shape T.f_narrow_shape.kp T.b_narrow_shape .nil pass0 (pa_cons (pv 0) (pa_cons (pv 2) pa_nil))))) (pss_cons (ps_set (i := 4) sc_draw.nd rfl (Or.inl rfl) (pe_ifExp (pt_cmpR op_eq (pv 2) pe_int (nomark _)) pe_int pe_int)) (pss_cons (ps_set (i := 5) sc_draw.nd rfl (Or.inl rfl) (pe_call G_lay_shape (hr.mono (by decide)) rfl T.g_lay_shape T.f_lay_shape.kp T.b_lay_shape .nil pass0 (pa_cons (pv 0) (pa_cons (pe_call G_value_x (hr.mono (by decide)) rfl T.g_value_x T.f_value_x.kp T.b_value_x .nil pass0 (pa_cons (pv 0) (pa_cons (pv 1) pa_nil))) (pa_cons (pe_call G_value_y (hr.mono (by decide)) rfl T.g_value_y T.f_value_y.kp T.b_value_y .nil pass0 (pa_cons (pv 0) (pa_cons (pv 1) pa_nil))) (pa_cons (pv 3) (pa_cons (pv 4) pa_nil))))))) (pss_cons (ps_asg (pv 5) (pg_sub (pe_fld (pv 0) rfl) (pe_gint rfl T.g_VF) set_list)) (pss_one (ps_ret (pe_gint rfl T.g_GOES_ON)))))))), ?_⟩
    have fx := M.facts
    have tx := T.z_Machine
    have e : Sz36.act st n = .ok (Sz36.laid st (st.reg (n / 256 % 16)) (st.reg (n / 16 % 16)) (if n % 16 = 0 then 16 else n % 16) (n % 16 == 0)) := by
      unfold Sz36.act
      simp only [hd]
    have h := h.ok e
    unfold sp_value_x sp_value_y
    walk_at "rd"
    refine ⟨by decide, ite2 (fun e => ?_) fun e => ?_⟩
    · have e5 : (n % 16 == 0) = true := by rw [beq_iff_eq]; omega
      rw [if_pos (show n % 16 = 0 by omega), e5] at h
      refine ⟨p, dx, a, m, st, rfl, M, hR, fun H1 l hl S hl1 => ?_⟩
      dsimp only
      rw [if_pos e]
      have M1 := M.same S
      refine ⟨dx, a, m, st, n, rfl, M1, hR, dx, a, m, st, n, rfl, M1, hR, p, dx, a, m, st, _, _, 16, true, l, rfl, M1, hR, hl1, (M.none_not hl).2, fun H2 g2 => ?_⟩
      have M2 := g2.at_
      refine ⟨_, _, _, M2.ob, T.cl_Machine, T.x_Machine_registers, _, lk_regs _ _, _, rfl, _, M2.regs, 15, ixZ rfl (by rw [List.length_map]; show _ < m.regs.length; rw [hR.regsLen]; decide), ?_⟩
      rw [← List.map_set]
      exact h _ a _ (((Go.same M1 fun b o e _ _ => S b o e).trans g2).trans (.same (M2.setRegs _) (Frm.set _ (by simp [MA.all])))) (hR.laid _ _ _ _) rfl
    · have e5 : (n % 16 == 0) = false := by rw [beq_eq_false_iff_ne]; omega
      rw [if_neg (show ¬ n % 16 = 0 by omega), e5] at h
      refine ⟨p, dx, a, m, st, n % 16, by rw [show (n : Int) % 16 = ((n % 16 : Nat) : Int) by omega], M, hR, by omega, fun H1 l hl S hl1 => ?_⟩
      dsimp only
      rw [if_neg e]
      have M1 := M.same S
      refine ⟨dx, a, m, st, n, rfl, M1, hR, dx, a, m, st, n, rfl, M1, hR, p, dx, a, m, st, _, _, n % 16, false, l, rfl, M1, hR, hl1, (M.none_not hl).2, fun H2 g2 => ?_⟩
      have M2 := g2.at_
      refine ⟨_, _, _, M2.ob, T.cl_Machine, T.x_Machine_registers, _, lk_regs _ _, _, rfl, _, M2.regs, 15, ixZ rfl (by rw [List.length_map]; show _ < m.regs.length; rw [hR.regsLen]; decide), ?_⟩
      rw [← List.map_set]
      exact h _ a _ (((Go.same M1 fun b o e _ _ => S b o e).trans g2).trans (.same (M2.setRegs _) (Frm.set _ (by simp [MA.all])))) (hR.laid _ _ _ _) rfl
def sp_do_instruction (C : Addr) : Sp := fun vs H Q _ => ∃ p dx a m st, vs = [.ref p] ∧ MAt C H p dx a m ∧ R m st ∧ Out C p dx H a m (Sz36.step st) Q
theorem ok_do_instruction (T : Txt K mg A) : FnOk P w K mg base CX0 5 A.a_do_instruction A.d_do_instruction ["machine"] (sp_do_instruction A.c_Machine) := by
  have G_word_at : FnOk P w K mg base CX0 _ _ _ _ _ := ok_word_at T
  refine T.f_do_instruction.ok sc_do_instruction (fun vs H Q E h => ?_) (fun cdv A' outer s H vs Q E hr h => ?_)
  · obtain ⟨p, dx, a, m, st, rfl, _⟩ := h; rfl
  · obtain ⟨p, dx, a, m, st, rfl, M, hR, h⟩ := h
    refine ⟨_, (pss_cons (ps_set (i := 1) sc_do_instruction.nd rfl (Or.inl rfl) (pe_fld (pv 0) rfl)) (pss_cons (ps_set (i := 2) sc_do_instruction.nd rfl (Or.inl rfl) (pe_call G_word_at (hr.mono (by decide)) rfl T.g_word_at T.f_word_at.kp T.b_word_at .nil pass0 (pa_cons (pv 0) (pa_cons (pv 1) pa_nil)))) (pss_cons (ps_fld (pv 0) (pe_op op_mod (pe_op op_add (pv 1) pe_int) (pe_gint rfl T.g_MEMORY_SIZE)) rfl) (pss_cons (ps_set (i := 3) sc_do_instruction.nd rfl (Or.inl rfl) (pe_callV (k := 4) (pe_ix ix_tup (pe_gref rfl T.g_BY_FIRST_DIGIT) (pe_op op_fdiv (pv 2) pe_int) (fun _ _ => rfl)) (hr.mono (by decide)) (pa_cons (pv 0) (pa_cons (pv 2) pa_nil)))) (pss_cons (ps_if (pt_cmpR op_ne (pv 3) (pe_gint rfl T.g_GOES_ON) (nomark _)) (pss_one (ps_fld (pv 0) (pv 1) rfl)) pss_nil) (pss_one (ps_ret (pv 3)))))))), ?_⟩
    have fx := M.facts
    have tx := T.z_Machine
    have hb1 := getB hR st.pc
    have hb2 := getB hR (st.pc + 1)
    have hc : ∀ d, d < 16 → ∃ f fd, FnOk P w K mg base CX0 4 f fd ["machine", "word"] (sp_ins A.c_Machine d) ∧ PySem.W.keepIn K (.ref f) = true ∧ Binds K fd ["machine", "word"] [] ∧ ([V.ref A.a_do_without_registers, V.ref A.a_jump, V.ref A.a_jump_and_come_back, V.ref A.a_pass_if_number, V.ref A.a_pass_if_not_number, V.ref A.a_pass_if_equal, V.ref A.a_put_number, V.ref A.a_add_number, V.ref A.a_do_calculation, V.ref A.a_pass_if_unequal, V.ref A.a_put_i, V.ref A.a_jump_further, V.ref A.a_take_chance, V.ref A.a_draw, V.ref A.a_pass_by_key, V.ref A.a_do_transfer] : List V)[d]? = some (V.ref f) := by
      intro d hd
      rcases (show d = 0 ∨ d = 1 ∨ d = 2 ∨ d = 3 ∨ d = 4 ∨ d = 5 ∨ d = 6 ∨ d = 7 ∨ d = 8 ∨ d = 9 ∨ d = 10 ∨ d = 11 ∨ d = 12 ∨ d = 13 ∨ d = 14 ∨ d = 15 by omega) with e | e | e | e | e | e | e | e | e | e | e | e | e | e | e | e <;> subst e
      · exact ⟨_, _, (ok_do_without_registers T).mono (by decide), T.f_do_without_registers.kp, T.b_do_without_registers, rfl⟩
      · exact ⟨_, _, (ok_jump T).mono (by decide), T.f_jump.kp, T.b_jump, rfl⟩
      · exact ⟨_, _, (ok_jump_and_come_back T).mono (by decide), T.f_jump_and_come_back.kp, T.b_jump_and_come_back, rfl⟩
      · exact ⟨_, _, (ok_pass_if_number T).mono (by decide), T.f_pass_if_number.kp, T.b_pass_if_number, rfl⟩
      · exact ⟨_, _, (ok_pass_if_not_number T).mono (by decide), T.f_pass_if_not_number.kp, T.b_pass_if_not_number, rfl⟩
      · exact ⟨_, _, (ok_pass_if_equal T).mono (by decide), T.f_pass_if_equal.kp, T.b_pass_if_equal, rfl⟩
      · exact ⟨_, _, (ok_put_number T).mono (by decide), T.f_put_number.kp, T.b_put_number, rfl⟩
      · exact ⟨_, _, (ok_add_number T).mono (by decide), T.f_add_number.kp, T.b_add_number, rfl⟩
      · exact ⟨_, _, (ok_do_calculation T).mono (by decide), T.f_do_calculation.kp, T.b_do_calculation, rfl⟩
      · exact ⟨_, _, (ok_pass_if_unequal T).mono (by decide), T.f_pass_if_unequal.kp, T.b_pass_if_unequal, rfl⟩
      · exact ⟨_, _, (ok_put_i T).mono (by decide), T.f_put_i.kp, T.b_put_i, rfl⟩
      · exact ⟨_, _, (ok_jump_further T).mono (by decide), T.f_jump_further.kp, T.b_jump_further, rfl⟩
      · exact ⟨_, _, (ok_take_chance T).mono (by decide), T.f_take_chance.kp, T.b_take_chance, rfl⟩
      · exact ⟨_, _, (ok_draw T).mono (by decide), T.f_draw.kp, T.b_draw, rfl⟩
      · exact ⟨_, _, (ok_pass_by_key T).mono (by decide), T.f_pass_by_key.kp, T.b_pass_by_key, rfl⟩
      · exact ⟨_, _, (ok_do_transfer T).mono (by decide), T.f_do_transfer.kp, T.b_do_transfer, rfl⟩
    unfold sp_word_at
    walk_at "rd"
    refine ⟨dx, a, m, st, st.pc, hR.pc, M, hR, by decide, ⟨by decide, by decide⟩, ?_⟩
    unfold Sz36.step at h
    generalize hW : 256 * st.get st.pc + st.get (st.pc + 1) = W at h
    have hW2 : W < 65536 := by omega
    have epc : (m.pc + 2) % 4096 = (((st.pc + 2) % 4096 : Nat) : Int) := by rw [hR.pc]; omega
    rw [epc]
    have M1 := MAt.put M { m with pc := (((st.pc + 2) % 4096 : Nat) : Int) } (by exact ⟨rfl, rfl, rfl, rfl, rfl, rfl⟩)
    have hR1 := hR.jump (st.pc + 2)
    have G1 := Go.same M1 (Frm.put H _)
    obtain ⟨f, fd, F, kp, bb, hf⟩ := hc (W / 4096) (by omega)
    refine ⟨A.k_BY_FIRST_DIGIT, _, _, _, rfl, rfl, T.t_BY_FIRST_DIGIT.sq _, at_of (j := W / 4096) (by omega) hf, f, rfl, fd, _, _, F, kp, bb, p, dx, a, _, st.jump (st.pc + 2), W, rfl, M1, hR1, hW2, rfl, ?_⟩
    cases hact : Sz36.act (st.jump (st.pc + 2)) W with
    | ok s' =>
      have h := h.ok hact
      intro H' a' m' g r e
      refine ⟨rfl, ?_⟩
      rw [if_neg (by simp)]
      exact h H' a' m' (G1.trans g) r e
    | error e =>
      have h := h.stop hact
      intro H' ne g
      have M' := g.at_
      refine ⟨rfl, ?_⟩
      rw [if_pos (by simp; omega)]
      refine ⟨_, _, _, M'.ob, T.cl_Machine, T.x_Machine_pc, by rw [mf_len]; trivial, ?_⟩
      rw [pt_pc]
      exact h _ ne ((G1.trans g).trans (.same (MAt.put M' m (by exact ⟨rfl, rfl, rfl, rfl, rfl, rfl⟩)) (Frm.put H' _)))
end
end Sg
end
section
set_option Elab.async false
set_option linter.all false
set_option maxRecDepth 100000
set_option maxHeartbeats 2000000
set_option hygiene false
namespace Sg
open PySem PySem.Spec PyProof.Rows L2
local macro_rules | `(tactic| walk_at "rd") => `(tactic| simp only [tRet, tRetN, tIf, tIfS, tTest, tOp, tUn, tVar, tC, tSeq, tAsg, gName, tDrop, tNext, tFld, sFld, sFldAug, tCall, tMeth, tCB, tCons, tNil, tLst, tTup, tAnd, tOr, tNot, tAndV, tOrV, tNotV, tSl, tPart, tNoPart, rU, rI, rI0, rEq, rNe, rAdd, rSub, rIxL, rSetL, gSub, start_def, scal_ii, scal_bb, cxOf_K, List.map_cons, List.map_nil, List.cons_append, List.nil_append, List.append_nil, List.length_cons, List.length_nil, Nat.reduceAdd, Nat.reduceSub, List.replicate_succ, List.replicate_zero, List.getElem?_cons_zero, List.getElem?_cons_succ, List.set_cons_zero, List.set_cons_succ, Option.some.injEq, V.int.injEq, V.ref.injEq, V.bl.injEq, HO.ins.injEq, HO.lst.injEq, exists_eq_left, exists_eq_left', exists_and_left, and_assoc, true_and, and_true, decide_eq_true_eq, mf_len, lk_numbers, lk_place, lk_take, pt_place, rf_len, lk_mem, lk_regs, lk_aside, lk_i, lk_pc, lk_places, lk_wait, lk_sound, lk_pressed, lk_chance, lk_large, lk_rows, lk_why, pt_why, pt_mem, pt_rows, tIxK, tCallV, pt_i, pt_pc, pt_wait, pt_sound, pt_chance, pt_large, upd_same, upd_upd, List.cons.injEq, ite_true, ite_false, eq_self, Int.reduceEq, Int.reduceNeg, decide_true, decide_false, reduceCtorEq, if_true, if_false, Bool.not_eq_true, Bool.not_true, Bool.not_false, Bool.true_eq_false, Bool.false_eq_true, ← List.map_set, List.length_map, ipI, ipC, tAug, tAugS, rGetL, rAppend, rExtend, rPop, rCat, rRep, gCons, gNil,  rSlL, truV_bl, truV_int, fx, tx])
local macro_rules | `(tactic| walk_at "nx") => `(tactic| try simp only [tSeq, tAsg, tIfS, tTest, tOp, rEq, rNe, tVar, tC, tNext, gName, tRet, tCall, tCons, tNil, scal_ii, start_def, List.map_cons, List.map_nil, List.cons_append, List.nil_append, List.append_nil, List.length_cons, List.length_nil, Nat.reduceAdd, Nat.reduceSub, List.replicate_succ, List.replicate_zero, List.getElem?_cons_zero, List.getElem?_cons_succ, List.set_cons_zero, List.set_cons_succ, Option.some.injEq, V.ref.injEq, V.int.injEq, V.bl.injEq, exists_eq_left', exists_eq_left, exists_and_left, true_and, and_true, and_assoc, ite_true, ite_false, eq_self, Int.reduceEq, Int.reduceNeg, decide_true, decide_false, decide_eq_true_eq, reduceCtorEq, Bool.false_eq_true, if_true, if_false, ↓reduceIte, cxOf_K])
local macro_rules | `(tactic| walk_at "me") => `(tactic| simp only [tMeth, tVar, tNil, List.getElem?_cons_zero, List.getElem?_cons_succ, Option.some.injEq, V.ref.injEq, exists_eq_left', exists_eq_left, fx, HO.ins.injEq, exists_and_left, true_and, and_assoc, lk_take, lk_take_row, List.append_nil, List.nil_append])
section
variable {P : Program} {w : World} {K : PySem.W.Frag} {mg : Str → Option Value} {base : Heap} {A : Ad}
def sp_screen_bytes (C : Addr) : Sp := fun vs H Q _ => ∃ p dx a m st, vs = [.ref p] ∧ MAt C H p dx a m ∧ R m st ∧ NewL H (toldN st (Sz36.high st) ++ List.replicate (1024 - Sz36.wide st / 8 * Sz36.high st) 0) Q
theorem ok_screen_bytes (T : Txt K mg A) : FnOk P w K mg base CX0 2 A.a_screen_bytes A.d_screen_bytes ["machine"] (sp_screen_bytes A.c_Machine) := by
  have G_screen_width : FnOk P w K mg base CX0 _ _ _ _ _ := ok_screen_width T
  refine T.f_screen_bytes.ok sc_screen_bytes (fun vs H Q E h => ?_) (fun cdv A' outer s H vs Q E hr h => ?_)
  · obtain ⟨p, dx, a, m, st, rfl, _⟩ := h; rfl
  · obtain ⟨p, dx, a, m, st, rfl, M, hR, h⟩ := h
    refine ⟨_, (pss_cons (ps_set (i := 1) sc_screen_bytes.nd rfl (Or.inl rfl) (pe_call G_screen_width (hr.mono (by decide)) rfl T.g_screen_width T.f_screen_width.kp T.b_screen_width .nil pass0 (pa_cons (pv 0) pa_nil))) (pss_cons (ps_set (i := 2) sc_screen_bytes.nd rfl (Or.inl rfl) (pe_lst pa_nil)) (pss_cons (ps_for PassesOwn.never rfl (pi_list (pe_fld (pv 0) rfl)) (pg_name (i := 3) sc_screen_bytes.nd rfl (Or.inr rfl)) (pss_one (ps_expr (pe_bm PySem.F.plainAttrs_list PySem.F.slot_list_extend PySem.F.type_list_extend mt_extend (pv 2) (pa_cons (pe_lc (own := [("shift", 4)]) rfl sc_screen_bytes.nd (pi_range3 rfl T.n_range (pa_cons (pe_op op_sub (pv 1) pe_int) (pa_cons (pe_un un_neg pe_int) (pa_cons (pe_un un_neg pe_int) pa_nil)))) (blkOk_by rfl) (fun _ _ _ _ _ => (pg_name (i := 4) sc_screen_bytes.nd rfl (Or.inl rfl))) (fun _ _ _ _ _ => pts_nil) (fun _ _ _ _ _ => (pe_op op_mod (pe_op op_shr (pv 3) (pv 4)) pe_int))) pa_nil))))) (pss_one (ps_ret (pe_op op_cat (pv 2) (pe_op op_rep (pe_lst (pa_cons pe_int pa_nil)) (pe_op op_sub (pe_gint rfl T.g_SCREEN_BYTES) (pe_callB call_len_seq rfl T.n_len PySem.boot_len (pa_cons (pv 2) pa_nil)))))))))), ?_⟩
    have fx := M.facts
    have tx := T.z_Machine
    unfold sp_screen_width
    walk_at "rd"
    have hw := wide_le st
    have hh := high_le st
    refine ⟨dx, a, m, M, st, hR, Nat.zero_le _, fun L nL => ?_⟩
    have S0 := Same.new (o := .lst []) nL
    have M0 := M.same S0
    have hrg : RgC (((Sz36.wide st : Nat) : Int) - 8) (-1) (-8) (Sz36.wide st / 8) := by
      rcases hw with e | e <;> rw [e] <;> exact ⟨by decide, by decide, by decide, by decide⟩
    have tlen : ∀ i, (toldN st i).length = Sz36.wide st / 8 * i := fun i => by unfold toldN; exact flatN_len _ _ i
    refine ⟨_, rfl, p, A.c_Machine, dx, _, _, rfl, M0.ob, T.cl_Machine, T.x_Machine_rows, lk_rows _ _, a.rows, rfl, ⟨_, SqL.of M0.rows⟩, for_list (K := K) (a := a.rows) (xs := m.rows.map V.int) (fun i σ H' => ∃ v3, σ = [some (V.ref p), some (V.int ((Sz36.wide st : Nat) : Int)), some (V.ref L), v3, none] ∧ Same H H' ∧ H' L = some (.lst ((toldN st i).map V.int))) ⟨none, rfl, S0, upd_same⟩ (fun i σ H' _ ⟨_, _, S, _⟩ => SqL.of (S _ _ M.rows)) ?_ ?_⟩
    · rintro i z σ H' hi ⟨v3, rfl, S, hL⟩
      have hi2 : i < Sz36.high st := by
        have q := (List.getElem?_eq_some_iff.mp hi).1
        rw [List.length_map, hR.rowsLen] at q
        exact q
      have hz : z = V.int ((rowOf st i : Nat) : Int) := by
        rw [List.getElem?_map, hR.rows, tab_get _ hi2] at hi
        exact (Option.some.inj hi).symm
      subst hz
      refine ⟨_, rfl, .inl ⟨rfl, _, SqL.of hL⟩, ?_⟩
      refine te_lcJ (J := Itc (((Sz36.wide st : Nat) : Int) - 8) (-8) (Sz36.wide st / 8)) (n := Sz36.wide st / 8) (g := fun j => (((Sz36.wide st : Nat) : Int) - 8) + (j : Int) * (-8)) (f := fun j => ((rowOf st i / 2 ^ (Sz36.wide st - 8 - 8 * j) % 256 : Nat) : Int)) (fun i H hi => hi) (fun i H x H' y => y) (fun i H hi => hi) (fun R r => ⟨_, rfl, _, _, rfl, rfl, _, rfl, _, rfl, _, _, _, _, rfl, hrg, r⟩) (by omega) (fun H1 j Q' hj S1 q => ?_) _ fun H1 l1 n1 S1 c1 => ?_
      · refine ⟨_, rfl, _, rfl, _, _, rfl, rfl, ?_, _, _, rfl, rfl, (show (0 : Int) < 256 by decide), ?_⟩
        · show (0 : Int) ≤ (((Sz36.wide st : Nat) : Int) - 8) + (j : Int) * (-8)
          omega
        · show Q' (V.int (((rowOf st i : Nat) : Int) / 2 ^ ((((Sz36.wide st : Nat) : Int) - 8) + (j : Int) * (-8)).toNat % 256)) H1
          rw [show (((Sz36.wide st : Nat) : Int) - 8) + (j : Int) * (-8) = ((Sz36.wide st - 8 - 8 * j : Nat) : Int) by omega, sShr]
          rw [show ((rowOf st i / 2 ^ (Sz36.wide st - 8 - 8 * j) : Nat) : Int) % 256 = ((rowOf st i / 2 ^ (Sz36.wide st - 8 - 8 * j) % 256 : Nat) : Int) by omega]
          exact q
      · have hne : L ≠ l1 := ne_of_none hL n1
        refine ⟨L, l1, _, _, rfl, rfl, S1 _ _ hL, c1, ?_, _, rfl, ?_, ?_⟩
        · simp only [List.length_map, List.length_range, tlen]
          show _ ≤ 16777216
          rcases hw with e | e <;> rw [e] <;> omega
        · exact same_put (S.trans S1) nL
        · rw [upd_same]
          unfold toldN
          rw [flatN_succ, List.map_append]
    · rintro σ H' ⟨v3, rfl, S, hL⟩
      rw [List.length_map, hR.rowsLen] at hL
      have hle : Sz36.wide st / 8 * Sz36.high st ≤ 1024 := by rcases hw with e | e <;> rcases hh with e' | e' <;> rw [e, e'] <;> decide
      refine ⟨_, rfl, te_rep2 (n := 1024 - Sz36.wide st / 8 * Sz36.high st) (by omega) (fun H2 Q2 S2 q => ?_) _ fun H2 l2 n2 S2 c2 => ⟨L, l2, _, _, rfl, rfl, S2 _ _ hL, c2, ?_, fun l3 n3 => ?_⟩⟩
      · refine ⟨_, rfl, L, rfl, _, .inl (SqL.of (S2 _ _ hL)), _, _, rfl, rfl, ?_⟩
        rw [List.length_map, tlen]
        show Q2 (V.int ((1024 : Int) - ((Sz36.wide st / 8 * Sz36.high st : Nat) : Int))) H2
        rw [show (1024 : Int) - ((Sz36.wide st / 8 * Sz36.high st : Nat) : Int) = ((1024 - Sz36.wide st / 8 * Sz36.high st : Nat) : Int) by omega]
        exact q
      · simp only [List.length_map, List.length_replicate, tlen]
        show _ ≤ 16777216
        omega
      · refine h _ l3 ((S.trans S2).free n3) ((S.trans S2).trans (Same.new n3)) ?_
        rw [upd_same, List.map_append]
/-! ### the calls -/
theorem Go.done {C p dx : Addr} {H H1 : Hp} {a a1 : MA} {Q : VK} {m' : MS} {ans : List Int} (h : Done C H p dx a Q m' ans) (g : Go C p dx H a H1 a1 m') (l : Addr) (hl : H1 l = none) : Q (.ref l) (upd H1 l (.lst (ans.map V.int))) :=
  h _ a1 l (g.at_.new hl) (fun b o e n1 n2 => by rw [upd_ne (ne_of_none (g.fr b o e n1 n2) hl)]; exact g.fr b o e n1 n2) g.nw (g.al l hl) upd_same
def sp_why (C : Addr) : Sp := fun vs H Q _ => ∃ p dx a m, vs = [.ref p] ∧ MAt C H p dx a m ∧ Done C H p dx a Q m [m.why]
theorem ok_c8_why (T : Txt K mg A) : FnOk P w K mg base CX0 1 A.a_c8_why A.d_c8_why ["machine"] (sp_why A.c_Machine) := by
  refine T.f_c8_why.ok sc_c8_why (fun vs H Q E h => ?_) (fun cdv A' outer s H vs Q E hr h => ?_)
  · obtain ⟨p, dx, a, m, rfl, _⟩ := h; rfl
  · obtain ⟨p, dx, a, m, rfl, M, h⟩ := h
    refine ⟨_, (pss_one (ps_ret (pe_lst (pa_cons (pe_fld (pv 0) rfl) pa_nil)))), ?_⟩
    have fx := M.facts
    have tx := T.z_Machine
    walk_at "rd"
    exact h.tell1 M (Frm.refl _ _ _)
def sp_screen (C : Addr) : Sp := fun vs H Q _ => ∃ p dx a m st, vs = [.ref p] ∧ MAt C H p dx a m ∧ R m st ∧ Done C H p dx a Q m (m.large :: (toldN st (Sz36.high st) ++ List.replicate (1024 - Sz36.wide st / 8 * Sz36.high st) 0))
theorem ok_c8_screen (T : Txt K mg A) : FnOk P w K mg base CX0 3 A.a_c8_screen A.d_c8_screen ["machine"] (sp_screen A.c_Machine) := by
  have G_screen_bytes : FnOk P w K mg base CX0 _ _ _ _ _ := ok_screen_bytes T
  refine T.f_c8_screen.ok sc_c8_screen (fun vs H Q E h => ?_) (fun cdv A' outer s H vs Q E hr h => ?_)
  · obtain ⟨p, dx, a, m, st, rfl, _⟩ := h; rfl
  · obtain ⟨p, dx, a, m, st, rfl, M, hR, h⟩ := h
    refine ⟨_, (pss_one (ps_ret (pe_op op_cat (pe_lst (pa_cons (pe_fld (pv 0) rfl) pa_nil)) (pe_call G_screen_bytes (hr.mono (by decide)) rfl T.g_screen_bytes T.f_screen_bytes.kp T.b_screen_bytes .nil pass0 (pa_cons (pv 0) pa_nil))))), ?_⟩
    have fx := M.facts
    have tx := T.z_Machine
    walk_at "rd"
    have tlen : (toldN st (Sz36.high st)).length = Sz36.wide st / 8 * Sz36.high st := by unfold toldN; exact flatN_len _ _ _
    have hle : Sz36.wide st / 8 * Sz36.high st ≤ 1024 := by rcases wide_le st with e | e <;> rcases high_le st with e' | e' <;> rw [e, e'] <;> decide
    refine ⟨by decide, fun l1 n1 => ?_⟩
    have S1 := Same.new (o := .lst [V.int m.large]) n1
    refine ⟨p, dx, a, m, st, rfl, M.new n1, hR, fun H2 l2 n2 S2 c2 => ⟨l2, rfl, _, S2 _ _ upd_same, _, c2, ?_, fun l3 n3 => ?_⟩⟩
    · simp only [List.length_map, List.length_append, List.length_replicate, List.length_cons, List.length_nil, tlen]
      show _ ≤ 16777216
      omega
    · exact h.tell (M.same (S1.trans S2)) (fun b o e _ _ => (S1.trans S2) b o e) l3 n3
def getV (m : MS) (k : Int) : Int := if k < 16 then m.regs.getD k.toNat 0 else if k = 16 then m.i else if k = 17 then m.pc else if k = 18 then m.wait else if k = 19 then m.sound else m.places.length
def sp_get (C : Addr) : Sp := fun vs H Q _ => ∃ p dx a m st, ∃ k : Int, vs = [.ref p, .int k] ∧ MAt C H p dx a m ∧ R m st ∧ (if k < 0 ∨ 20 < k then Done C H p dx a Q m [-1] else Done C H p dx a Q m [getV m k])
theorem ok_c8_get (T : Txt K mg A) : FnOk P w K mg base CX0 1 A.a_c8_get A.d_c8_get ["machine", "which"] (sp_get A.c_Machine) := by
  refine T.f_c8_get.ok sc_c8_get (fun vs H Q E h => ?_) (fun cdv A' outer s H vs Q E hr h => ?_)
  · obtain ⟨p, dx, a, m, st, k, rfl, _⟩ := h; rfl
  · obtain ⟨p, dx, a, m, st, k, rfl, M, hR, h⟩ := h
    refine ⟨_, (pss_cons (ps_if (PW.pt (pw_or (pt_cmpR op_lt (pv 1) pe_int (nomark _)) (pw_or1 (pt_cmpR op_gt (pv 1) (pe_gint rfl T.g_PLACES_THERE) (nomark _))))) (pss_one (ps_ret (pe_lst (pa_cons (pe_gint rfl T.g_REFUSED) pa_nil)))) pss_nil) (pss_cons (ps_if (pt_cmpR op_lt (pv 1) (pe_gint rfl T.g_REGISTER_COUNT) (nomark _)) (pss_one (ps_ret (pe_lst (pa_cons (pe_ix ix_list (pe_fld (pv 0) rfl) (pv 1) (fun _ _ => rfl)) pa_nil)))) pss_nil) (pss_cons (ps_if (pt_cmpR op_eq (pv 1) (pe_gint rfl T.g_I_REGISTER) (nomark _)) (pss_one (ps_ret (pe_lst (pa_cons (pe_fld (pv 0) rfl) pa_nil)))) pss_nil) (pss_cons (ps_if (pt_cmpR op_eq (pv 1) (pe_gint rfl T.g_PC_REGISTER) (nomark _)) (pss_one (ps_ret (pe_lst (pa_cons (pe_fld (pv 0) rfl) pa_nil)))) pss_nil) (pss_cons (ps_if (pt_cmpR op_eq (pv 1) (pe_gint rfl T.g_WAIT_TIMER) (nomark _)) (pss_one (ps_ret (pe_lst (pa_cons (pe_fld (pv 0) rfl) pa_nil)))) pss_nil) (pss_cons (ps_if (pt_cmpR op_eq (pv 1) (pe_gint rfl T.g_SOUND_TIMER) (nomark _)) (pss_one (ps_ret (pe_lst (pa_cons (pe_fld (pv 0) rfl) pa_nil)))) pss_nil) (pss_one (ps_ret (pe_lst (pa_cons (pe_callB call_len_seq rfl T.n_len PySem.boot_len (pa_cons (pe_fld (pv 0) rfl) pa_nil)) pa_nil)))))))))), ?_⟩
    have fx := M.facts
    have tx := T.z_Machine
    walk_at "rd"
    have no : (k < 0 ∨ 20 < k) → 1 ≤ sizeLine ∧ ∀ l, H l = none → Q (.ref l) (upd H l (.lst [V.int (-1)])) := fun e => by
      rw [if_pos e] at h
      exact h.tell1 M (Frm.refl _ _ _)
    refine ite2 (fun e => no (.inl e)) fun e1 => ite2 (fun e => no (.inr e)) fun e2 => ?_
    rw [if_neg (by omega)] at h
    unfold getV at h
    refine ite2 (fun e => ?_) fun e3 => ?_
    · have hk : m.regs[k.toNat]? = some ((st.reg k.toNat : Nat) : Int) := hR.reg (by omega)
      rw [if_pos e, List.getD_eq_getElem?_getD, hk] at h
      exact ⟨_, SqL.of M.regs, _, atZ (j := k.toNat) (by omega) hk, h.tell1 M (Frm.refl _ _ _)⟩
    rw [if_neg e3] at h
    refine ite2 (fun e => ?_) fun e4 => ?_
    · rw [if_pos e] at h
      exact h.tell1 M (Frm.refl _ _ _)
    rw [if_neg e4] at h
    refine ite2 (fun e => ?_) fun e5 => ?_
    · rw [if_pos e] at h
      exact h.tell1 M (Frm.refl _ _ _)
    rw [if_neg e5] at h
    refine ite2 (fun e => ?_) fun e6 => ?_
    · rw [if_pos e] at h
      exact h.tell1 M (Frm.refl _ _ _)
    rw [if_neg e6] at h
    refine ite2 (fun e => ?_) fun e7 => ?_
    · rw [if_pos e] at h
      exact h.tell1 M (Frm.refl _ _ _)
    rw [if_neg e7] at h
    refine ⟨_, .inl (SqL.of M.places), ?_⟩
    rw [List.length_map]
    exact h.tell1 M (Frm.refl _ _ _)
def setV (m : MS) (k v : Int) : MS := if k < 16 then { m with regs := m.regs.set k.toNat (v % 256) } else if k = 16 then { m with i := v % 65536 } else if k = 17 then { m with pc := v % 4096 } else if k = 18 then { m with wait := v % 256 } else { m with sound := v % 256 }
def sp_set (C : Addr) : Sp := fun vs H Q _ => ∃ p dx a m st, ∃ k v : Int, vs = [.ref p, .int k, .int v] ∧ MAt C H p dx a m ∧ R m st ∧ (if k < 0 ∨ 19 < k then Done C H p dx a Q m [-1] else Done C H p dx a Q (setV m k v) [0])
theorem ok_c8_set (T : Txt K mg A) : FnOk P w K mg base CX0 1 A.a_c8_set A.d_c8_set ["machine", "which", "value"] (sp_set A.c_Machine) := by
  refine T.f_c8_set.ok sc_c8_set (fun vs H Q E h => ?_) (fun cdv A' outer s H vs Q E hr h => ?_)
  · obtain ⟨p, dx, a, m, st, k, v, rfl, _⟩ := h; rfl
  · obtain ⟨p, dx, a, m, st, k, v, rfl, M, hR, h⟩ := h
    refine ⟨_, (pss_cons (ps_if (PW.pt (pw_or (pt_cmpR op_lt (pv 1) pe_int (nomark _)) (pw_or1 (pt_cmpR op_gt (pv 1) (pe_gint rfl T.g_SOUND_TIMER) (nomark _))))) (pss_one (ps_ret (pe_lst (pa_cons (pe_gint rfl T.g_REFUSED) pa_nil)))) pss_nil) (pss_cons (ps_if (pt_cmpR op_lt (pv 1) (pe_gint rfl T.g_REGISTER_COUNT) (nomark _)) (pss_one (ps_asg (pe_op op_mod (pv 2) (pe_gint rfl T.g_BYTE_COUNT)) (pg_sub (pe_fld (pv 0) rfl) (pv 1) set_list))) (pss_one (ps_if (pt_cmpR op_eq (pv 1) (pe_gint rfl T.g_I_REGISTER) (nomark _)) (pss_one (ps_fld (pv 0) (pe_op op_mod (pv 2) (pe_gint rfl T.g_WORD_COUNT)) rfl)) (pss_one (ps_if (pt_cmpR op_eq (pv 1) (pe_gint rfl T.g_PC_REGISTER) (nomark _)) (pss_one (ps_fld (pv 0) (pe_op op_mod (pv 2) (pe_gint rfl T.g_MEMORY_SIZE)) rfl)) (pss_one (ps_if (pt_cmpR op_eq (pv 1) (pe_gint rfl T.g_WAIT_TIMER) (nomark _)) (pss_one (ps_fld (pv 0) (pe_op op_mod (pv 2) (pe_gint rfl T.g_BYTE_COUNT)) rfl)) (pss_one (ps_fld (pv 0) (pe_op op_mod (pv 2) (pe_gint rfl T.g_BYTE_COUNT)) rfl))))))))) (pss_one (ps_ret (pe_lst (pa_cons (pe_gint rfl T.g_DONE) pa_nil)))))), ?_⟩
    have fx := M.facts
    have tx := T.z_Machine
    walk_at "rd"
    have no : (k < 0 ∨ 19 < k) → 1 ≤ sizeLine ∧ ∀ l, H l = none → Q (.ref l) (upd H l (.lst [V.int (-1)])) := fun e => by
      rw [if_pos e] at h
      exact h.tell1 M (Frm.refl _ _ _)
    refine ite2 (fun e => no (.inl e)) fun e1 => ite2 (fun e => no (.inr e)) fun e2 => ?_
    rw [if_neg (by omega)] at h
    unfold setV at h
    refine ite2 (fun e => ⟨by decide, ?_⟩) fun e3 => ?_
    · rw [if_pos e] at h
      exact ⟨k.toNat, ixZ (by omega) (by rw [hR.regsLen]; omega), h.tell1 (M.setRegs _) (Frm.set _ (by simp [MA.all]))⟩
    rw [if_neg e3] at h
    refine ite2 (fun e => ⟨by decide, ?_⟩) fun e4 => ?_
    · rw [if_pos e] at h
      exact h.tell1 (MAt.put M _ (by exact ⟨rfl, rfl, rfl, rfl, rfl, rfl⟩)) (Frm.put H _)
    rw [if_neg e4] at h
    refine ite2 (fun e => ⟨by decide, ?_⟩) fun e5 => ?_
    · rw [if_pos e] at h
      exact h.tell1 (MAt.put M _ (by exact ⟨rfl, rfl, rfl, rfl, rfl, rfl⟩)) (Frm.put H _)
    rw [if_neg e5] at h
    refine ite2 (fun e => ⟨by decide, ?_⟩) fun e6 => ⟨by decide, ?_⟩
    · rw [if_pos e] at h
      exact h.tell1 (MAt.put M _ (by exact ⟨rfl, rfl, rfl, rfl, rfl, rfl⟩)) (Frm.put H _)
    rw [if_neg e6] at h
    exact h.tell1 (MAt.put M _ (by exact ⟨rfl, rfl, rfl, rfl, rfl, rfl⟩)) (Frm.put H _)
def sp_run (C : Addr) : Sp := fun vs H Q _ => ∃ p dx a m st, ∃ n : Int, vs = [.ref p, .int n] ∧ MAt C H p dx a m ∧ R m st ∧ (if n < 0 ∨ 1000000 < n then Done C H p dx a Q m [-1] else ∀ m', R m' (Sz36.steps n.toNat st).1 → m'.why = ((Sz36.steps n.toNat st).1.why : Int) → Done C H p dx a Q m' [((Sz36.steps n.toNat st).2 : Int)])
theorem ok_c8_run (T : Txt K mg A) : FnOk P w K mg base CX0 6 A.a_c8_run A.d_c8_run ["machine", "n"] (sp_run A.c_Machine) := by
  have G_do_instruction : FnOk P w K mg base CX0 _ _ _ _ _ := ok_do_instruction T
  refine T.f_c8_run.ok sc_c8_run (fun vs H Q E h => ?_) (fun cdv A' outer s H vs Q E hr h => ?_)
  · obtain ⟨p, dx, a, m, st, n, rfl, _⟩ := h; rfl
  · obtain ⟨p, dx, a, m, st, n, rfl, M, hR, h⟩ := h
    refine ⟨_, (pss_cons (ps_if (PW.pt (pw_or (pt_cmpR op_lt (pv 1) pe_int (nomark _)) (pw_or1 (pt_cmpR op_gt (pv 1) (pe_gint rfl T.g_LONGEST_RUN) (nomark _))))) (pss_one (ps_ret (pe_lst (pa_cons (pe_gint rfl T.g_REFUSED) pa_nil)))) pss_nil) (pss_cons (ps_fld (pv 0) (pe_gint rfl T.g_GOES_ON) rfl) (pss_cons (ps_for PassesOwn.never rfl (pi_range1 rfl T.n_range (pa_cons (pv 1) pa_nil)) (pg_name (i := 2) sc_c8_run.nd rfl (Or.inl rfl)) (pss_cons (ps_set (i := 3) sc_c8_run.nd rfl (Or.inl rfl) (pe_call G_do_instruction (hr.mono (by decide)) rfl T.g_do_instruction T.f_do_instruction.kp T.b_do_instruction .nil pass0 (pa_cons (pv 0) pa_nil))) (pss_one (ps_if (pt_cmpR op_ne (pv 3) (pe_gint rfl T.g_GOES_ON) (nomark _)) (pss_cons (ps_fld (pv 0) (pv 3) rfl) (pss_one (ps_ret (pe_lst (pa_cons (pv 2) pa_nil))))) pss_nil)))) (pss_one (ps_ret (pe_lst (pa_cons (pv 1) pa_nil))))))), ?_⟩
    have fx := M.facts
    have tx := T.z_Machine
    walk_at "rd"
    have no : (n < 0 ∨ 1000000 < n) → 1 ≤ sizeLine ∧ ∀ l, H l = none → Q (.ref l) (upd H l (.lst [V.int (-1)])) := fun e => by
      rw [if_pos e] at h
      exact h.tell1 M (Frm.refl _ _ _)
    refine ite2 (fun e => no (.inl e)) fun e1 => ite2 (fun e => no (.inr e)) fun e2 => ?_
    rw [if_neg (by omega)] at h
    obtain ⟨N, rfl⟩ := Int.eq_ofNat_of_zero_le (show 0 ≤ n by omega)
    rw [Int.toNat_natCast] at h
    have M0 := MAt.put M { m with why := 0 } (by exact ⟨rfl, rfl, rfl, rfl, rfl, rfl⟩)
    have G0 := Go.same M0 (Frm.put H _)
    have hR0 : R { m with why := 0 } st := { hR with }
    refine ⟨_, rfl, (N : Int), rfl, by omega, by omega, ?_⟩
    rw [Int.toNat_natCast]
    refine for_range (n := N) (fun i σ H' => ∃ v2 v3 a' m' st', σ = [some (V.ref p), some (V.int (N : Int)), v2, v3] ∧ Go A.c_Machine p dx H a H' a' m' ∧ R m' st' ∧ m'.why = 0 ∧ Sz36.steps N st = ((Sz36.steps (N - i) st').1, (Sz36.steps (N - i) st').2 + i)) ⟨none, none, a, _, st, rfl, G0, hR0, rfl, rfl⟩ ?_ ?_
    · rintro i σ H' hi ⟨v2, v3, a', m', st', rfl, g, hR', hw, hst⟩
      have fx := g.at_.facts
      walk_at "rd"
      refine ⟨p, dx, a', m', st', rfl, g.at_, hR', ?_⟩
      obtain ⟨j, hj⟩ : ∃ j, N - i = j + 1 := ⟨N - i - 1, by omega⟩
      have hj2 : N - (i + 1) = j := by omega
      rw [hj] at hst
      cases hs : Sz36.step st' with
      | ok s2 =>
        have e : Sz36.steps (j + 1) st' = ((Sz36.steps j s2).1, (Sz36.steps j s2).2 + 1) := by
          show (match Sz36.step st' with | .ok n => _ | .error e => _) = _
          rw [hs]
        rw [e] at hst
        intro H2 a2 m2 g2 r2 e2
        refine ⟨rfl, ?_⟩
        rw [if_neg (by simp)]
        refine ⟨a2, m2, g.trans g2, s2, r2, e2.trans hw, ?_⟩
        rw [hst, hj2]
        simp only [Prod.mk.injEq, true_and]
        omega
      | error e =>
        have e3 : Sz36.steps (j + 1) st' = ({ st' with why := e }, 0) := by
          show (match Sz36.step st' with | .ok n => _ | .error e => _) = _
          rw [hs]
        rw [e3] at hst
        intro H2 ne g2
        have M2 := g2.at_
        have fx := M2.facts
        refine ⟨rfl, ?_⟩
        rw [if_pos (by simp; omega)]
        walk_at "rd"
        rw [hst] at h
        have hR3 : R { m' with why := (e : Int) } { st' with why := e } := { hR' with }
        have h := h _ hR3 rfl
        have M3 := MAt.put M2 { m' with why := (e : Int) } (by exact ⟨rfl, rfl, rfl, rfl, rfl, rfl⟩)
        refine ⟨by decide, fun l nl => ?_⟩
        rw [show (0 : Int) + (i : Int) = ((0 + i : Nat) : Int) by omega]
        exact Go.done h ((g.trans g2).trans (.same M3 (Frm.put H2 _))) l nl
    · rintro σ H' ⟨v2, v3, a', m', st', rfl, g, hR', hw, hst⟩
      have e4 : Sz36.steps (N - N) st' = ({ st' with why := 0 }, 0) := by rw [Nat.sub_self]; rfl
      rw [e4] at hst
      rw [hst] at h
      have h := h m' (hR'.setWhy 0) hw
      walk_at "rd"
      refine ⟨by decide, fun l nl => ?_⟩
      have q := Go.done h g l nl
      rw [Nat.zero_add] at q
      exact q
end
end Sg
end
section
set_option Elab.async false
set_option linter.all false
set_option maxRecDepth 100000
set_option maxHeartbeats 2000000
set_option hygiene false
namespace Sg
open PySem PySem.Spec PyProof.Rows L2
local macro_rules | `(tactic| walk_at "rd") => `(tactic| simp only [tRet, tRetN, tIf, tIfS, tTest, tOp, tUn, tVar, tC, tSeq, tAsg, gName, tDrop, tNext, tFld, sFld, sFldAug, tCall, tMeth, tCB, tCons, tNil, tLst, tTup, tAnd, tOr, tNot, tAndV, tOrV, tNotV, tSl, tPart, tNoPart, rU, rI, rI0, rEq, rNe, rAdd, rSub, rIxL, rSetL, gSub, start_def, scal_ii, scal_bb, cxOf_K, List.map_cons, List.map_nil, List.cons_append, List.nil_append, List.append_nil, List.length_cons, List.length_nil, Nat.reduceAdd, Nat.reduceSub, List.replicate_succ, List.replicate_zero, List.getElem?_cons_zero, List.getElem?_cons_succ, List.set_cons_zero, List.set_cons_succ, Option.some.injEq, V.int.injEq, V.ref.injEq, V.bl.injEq, HO.ins.injEq, HO.lst.injEq, exists_eq_left, exists_eq_left', exists_and_left, and_assoc, true_and, and_true, decide_eq_true_eq, mf_len, lk_numbers, lk_place, lk_take, pt_place, rf_len, lk_mem, lk_regs, lk_aside, lk_i, lk_pc, lk_places, lk_wait, lk_sound, lk_pressed, lk_chance, lk_large, lk_rows, lk_why, pt_why, pt_mem, pt_rows, tIxK, tCallV, pt_i, pt_pc, pt_wait, pt_sound, pt_chance, pt_large, upd_same, upd_upd, List.cons.injEq, ite_true, ite_false, eq_self, Int.reduceEq, Int.reduceNeg, decide_true, decide_false, reduceCtorEq, if_true, if_false, Bool.not_eq_true, Bool.not_true, Bool.not_false, Bool.true_eq_false, Bool.false_eq_true, ← List.map_set, List.length_map, ipI, ipC, tAug, tAugS, rGetL, rAppend, rExtend, rPop, rCat, rRep, gCons, gNil,  rSlL, truV_bl, truV_int, fx, tx])
local macro_rules | `(tactic| walk_at "nx") => `(tactic| try simp only [tSeq, tAsg, tIfS, tTest, tOp, rEq, rNe, tVar, tC, tNext, gName, tRet, tCall, tCons, tNil, scal_ii, start_def, List.map_cons, List.map_nil, List.cons_append, List.nil_append, List.append_nil, List.length_cons, List.length_nil, Nat.reduceAdd, Nat.reduceSub, List.replicate_succ, List.replicate_zero, List.getElem?_cons_zero, List.getElem?_cons_succ, List.set_cons_zero, List.set_cons_succ, Option.some.injEq, V.ref.injEq, V.int.injEq, V.bl.injEq, exists_eq_left', exists_eq_left, exists_and_left, true_and, and_true, and_assoc, ite_true, ite_false, eq_self, Int.reduceEq, Int.reduceNeg, decide_true, decide_false, decide_eq_true_eq, reduceCtorEq, Bool.false_eq_true, if_true, if_false, ↓reduceIte, cxOf_K])
local macro_rules | `(tactic| walk_at "me") => `(tactic| simp only [tMeth, tVar, tNil, List.getElem?_cons_zero, List.getElem?_cons_succ, Option.some.injEq, V.ref.injEq, exists_eq_left', exists_eq_left, fx, HO.ins.injEq, exists_and_left, true_and, and_assoc, lk_take, lk_take_row, List.append_nil, List.nil_append])
section
variable {P : Program} {w : World} {K : PySem.W.Frag} {mg : Str → Option Value} {base : Heap} {A : Ad}
/-- the machine stands for the specification's state, what stopped it too -/
def RW (m : MS) (s : Sz36.St) : Prop := R m s ∧ m.why = (s.why : Int)
/-- one call: the machine goes on as the specification's, the reader stands behind the call -/
def sp_answer_call (C CR : Addr) (K : PySem.W.Frag) : Sp := fun vs H Q _ => ∃ p dx a m r dr c k ns s cl t, vs = [.ref p, .ref r] ∧ MAt C H p dx a m ∧ RW m s ∧ RAt CR H r dr c k ∧ SqL K H c (List.map V.int ns) ∧ k ≤ ns.length ∧ Cal (ns.drop k) cl t ∧
  Sz36Neutral.asked1 (PySz36.whole cl) = true ∧
  ∀ H' a' m' l, MAt C H' p dx a' m' → RW m' (Sz36Neutral.step s (PySz36.whole cl)).1 → RAt CR H' r dr c (ns.length - t.length) → H' l = some (.lst ((Sz36Neutral.step s (PySz36.whole cl)).2.map V.int)) →
    (∀ b o, H b = some o → b ≠ p → b ∉ a.all → b ≠ r → H' b = some o) → (∀ b ∈ a'.all, b ∈ a.all ∨ H b = none) → (Sz36Neutral.step s (PySz36.whole cl)).2.length < 5000 → H l = none → Q (.ref l) H'
/-- answers's: a list of ints is handed in, the specification's list comes out -/
def spAns (K : PySem.W.Frag) : Sp := fun vs H Q _ => ∃ (a : Addr) (ns : List Int), vs = [.ref a] ∧ SqL K H a (ns.map V.int) ∧ ns.length ≤ 30000 ∧ (∀ x ∈ ns, -2147483648 ≤ x ∧ x ≤ 4294967295) ∧ PySz36.answers_asked ns = true ∧ ∀ (H' : Hp) (p : Addr), H' p = some (.lst ((PySz36.answers ns).map V.int)) → Q (.ref p) H'
theorem But.sqMade {H H1 : Hp} {x dx c C : Addr} {xs : List V} (nx : H x = none) (nd : H dx = none) (B : But (upd (upd H dx (.own x)) x (.ins C dx [])) H1 x) (h : SqL K H c xs) : SqL K H1 c xs := (Same.made nx nd B).seq h
/-- how far the reader is from the end -/
def far (n : Nat) (r : Addr) (H : Hp) : Nat := match H r with
  | some (.ins _ _ fs) => (match fs.lookup ("place" : Str) with
    | some (.int k) => n - k.toNat
    | _ => 0)
  | _ => 0
theorem far_eq {n : Nat} {C r dr c : Addr} {H : Hp} {k : Nat} (h : RAt C H r dr c k) : far n r H = n - k := by
  unfold far
  rw [h]
  show (match List.lookup ("place" : Str) (rf c k) with
    | some (.int k) => n - k.toNat
    | _ => 0) = n - k
  rw [lk_place]
  rfl
theorem ok_answers (T : Txt K mg A) (G_answer_call : FnOk P w K mg base CX0 7 A.a_answer_call A.d_answer_call ["machine", "reader"] (sp_answer_call A.c_Machine A.c_Reader K)) :
    FnOk P w K mg base CX0 8 A.a_answers A.d_answers ["calls"] (spAns K) := by
  have G_Machine___init__ : FnOk P w K mg base CX0 _ _ _ _ _ := ok_Machine___init__ T
  have G_Reader___init__ : FnOk P w K mg base CX0 _ _ _ _ _ := ok_Reader___init__ T
  have G_Reader_has_more : FnOk P w K mg base CX0 _ _ _ _ _ := ok_Reader_has_more T
  refine T.f_answers.ok sc_answers (fun vs H Q E h => ?_) (fun cdv A' outer s H vs Q E hr h => ?_)
  · obtain ⟨c, ns, rfl, _⟩ := h; rfl
  · obtain ⟨c, ns, rfl, hS, hlen, hb, hask, h⟩ := h
    refine ⟨_, (pss_cons (ps_set (i := 1) sc_answers.nd rfl (Or.inl rfl) (pe_make0 T.mk_Machine G_Machine___init__ (hr.mono (by decide)) rfl T.g_Machine T.b_Machine___init__ .nil pass0)) (pss_cons (ps_set (i := 2) sc_answers.nd rfl (Or.inl rfl) (pe_make T.mk_Reader G_Reader___init__ (hr.mono (by decide)) rfl T.g_Reader T.b_Reader___init__ .nil pass0 (pa_cons (pv 0) pa_nil))) (pss_cons (ps_set (i := 3) sc_answers.nd rfl (Or.inl rfl) (pe_lst pa_nil)) (pss_cons (ps_while PassesOwn.never (pt_truth (pe_meth0 (pv 2) T.cl_Reader T.m_Reader_has_more G_Reader_has_more (hr.mono (by decide)) T.b_Reader_has_more .nil pass0) (fun _ => rfl)) (pss_cons (ps_set (i := 4) sc_answers.nd rfl (Or.inl rfl) (pe_call G_answer_call (hr.mono (by decide)) rfl T.g_answer_call T.f_answer_call.kp T.b_answer_call .nil pass0 (pa_cons (pv 1) (pa_cons (pv 2) pa_nil)))) (pss_cons (ps_expr (pe_bm PySem.F.plainAttrs_list PySem.F.slot_list_append PySem.F.type_list_append mt_append (pv 3) (pa_cons (pe_callB call_len_seq rfl T.n_len PySem.boot_len (pa_cons (pv 4) pa_nil)) pa_nil))) (pss_one (ps_expr (pe_bm PySem.F.plainAttrs_list PySem.F.slot_list_extend PySem.F.type_list_extend mt_extend (pv 3) (pa_cons (pv 4) pa_nil))))))) (pss_one (ps_ret (pv 3))))))), ?_⟩
    intro p dx np nd ne
    refine ⟨p, dx, rfl, upd_same, fun H1 a1 M1 B1 F1 => ⟨rfl, ?_⟩⟩
    have S1 : Same H H1 := Same.made np nd B1
    have hS1 := S1.seq hS
    have fr1 : ∀ b, upd (upd H dx (.own p)) p (.ins A.c_Machine dx []) b = none → H b = none := fun b q => by
      by_cases e1 : b = p
      · rw [e1]; exact np
      · rw [upd_ne e1] at q
        by_cases e2 : b = dx
        · rw [e2]; exact nd
        · rw [upd_ne e2] at q
          exact q
    refine ⟨_, rfl, fun r dr nr ndr ner => ⟨r, dr, c, rfl, upd_same, fun H2 M2 B2 => ⟨rfl, ?_⟩⟩⟩
    have S2 : Same H1 H2 := Same.made nr ndr B2
    have hS2 := S2.seq hS1
    refine ⟨by decide, fun L hL => ?_⟩
    have S3 := Same.new (o := .lst []) hL
    have keepM : ∀ {H H' : Hp} {m : MS} {a : MA}, MAt A.c_Machine H p dx a m → Same H H' → MAt A.c_Machine H' p dx a m := fun M S => ⟨S _ _ M.ob, S _ _ M.mem, S _ _ M.regs, S _ _ M.aside, S _ _ M.places, S _ _ M.pressed, S _ _ M.rows, M.nd⟩
    have M3 := keepM M1 (S2.trans S3)
    have hRst := Rest.start hask
    simp only [gName, tSeq, start_def, List.map_cons, List.map_nil, List.cons_append, List.nil_append, List.length_cons, List.length_nil, Nat.reduceAdd, Nat.reduceSub, List.replicate_succ, List.replicate_zero, List.set_cons_zero, List.set_cons_succ, cxOf_K]
    refine while_by (fun σ H' => ∃ v4 k s m a out, σ = [some (.ref c), some (.ref p), some (.ref r), some (.ref L), v4] ∧ MAt A.c_Machine H' p dx a m ∧ RW m s ∧ RAt A.c_Reader H' r dr c k ∧ Same H H' ∧ (∀ b ∈ a.all, H b = none) ∧ H' L = some (.lst (List.map V.int out)) ∧ L ∉ a.all ∧ Rest ns k s out ∧ k ≤ ns.length) (fun _ H' => far ns.length r H')
      ⟨none, 0, _, _, a1, [], rfl, M3, ⟨R.fresh (by decide) (by decide), rfl⟩, S3 _ _ M2, S1.trans (S2.trans S3), (fun b hb => by have q := F1 b hb; exact fr1 b q), upd_same, ?_, hRst, Nat.zero_le _⟩ ?_ ?_
    · intro hm
      have z : ∀ b ∈ a1.all, H2 b ≠ none := fun b hb => by
        have := (keepM M1 S2)
        simp only [MA.all, List.mem_cons, List.not_mem_nil, or_false] at hb
        rcases hb with e | e | e | e | e | e <;> rw [e]
        · rw [this.mem]; simp
        · rw [this.regs]; simp
        · rw [this.aside]; simp
        · rw [this.places]; simp
        · rw [this.pressed]; simp
        · rw [this.rows]; simp
      exact z L hm hL
    · rintro σ H' ⟨v4, k, s, m, a, out, rfl, M, hR, hr', hSm, hfr, hO, hLa, hRs, hk⟩
      have hSq := hSm.seq hS
      have fx : H' r = some (.ins A.c_Reader dr (rf c k)) := hr'
      have tx := T.z_Reader
      refine ⟨_, rfl, r, dr, _, rfl, hr', (by rfl), r, dr, c, k, ns, rfl, hr', hSq, _, rfl, ite2 (fun e => ?_) fun e => ?_⟩
      · have hk2 : k < ns.length := of_decide_eq_true e
        obtain ⟨cl, t, hcal, has, hol, hnext⟩ := hRs.step hk2
        refine ⟨_, rfl, _, rfl, p, dx, a, m, r, dr, c, k, ns, s, cl, t, rfl, M, hR, hr', hSq, hk, hcal, has, fun H4 a4 m4 l M4 R4 r4 hl F4 A4 hl5 nl => ?_⟩
        have hLp : L ≠ p := ne_of hO M.ob (by intro q; cases q)
        have hLr : L ≠ r := ne_of hO hr' (by intro q; cases q)
        have hO4 := F4 L _ hO hLp hLa hLr
        have hne : L ≠ l := ne_of_none hO nl
        have e16 : sizeLine = 16777216 := rfl
        refine ⟨_, rfl, .inl ⟨rfl, _, SqL.of hO4⟩, _, rfl, l, _, rfl, .inl (SqL.of hl), L, _, _, rfl, rfl, hO4, ?_, ?_⟩
        · rw [List.length_map]; omega
        refine ⟨_, rfl, .inl ⟨rfl, _, SqL.of upd_same⟩, _, rfl, L, l, _, _, rfl, rfl, upd_same, by rw [upd_ne (Ne.symm hne)]; exact hl, ?_, ?_⟩
        · simp only [List.length_append, List.length_map, List.length_cons, List.length_nil]; omega
        have hLa4 : L ∉ a4.all := fun hm => by
          rcases A4 L hm with e | e
          · exact hLa e
          · rw [hO] at e; cases e
        have kp : ∀ b o, H4 b = some o → b ≠ L → (upd (upd H4 L (.lst (List.map V.int out ++ [V.int ((List.map V.int (Sz36Neutral.step s (PySz36.whole cl)).2).length : Nat)]))) L (.lst ((List.map V.int out ++ [V.int ((List.map V.int (Sz36Neutral.step s (PySz36.whole cl)).2).length : Nat)]) ++ List.map V.int (Sz36Neutral.step s (PySz36.whole cl)).2))) b = some o := fun b o e n => by rw [upd_ne n, upd_ne n]; exact e
        have nin : ∀ b ∈ a4.all, b ≠ L := fun b hb z => hLa4 (z ▸ hb)
        have hk4 : ns.length - t.length ≤ ns.length := Nat.sub_le _ _
        have hcl := hcal.len
        rw [List.length_drop] at hcl
        refine ⟨⟨_, ns.length - t.length, _, m4, a4, _, rfl, ⟨kp _ _ M4.ob (fun z => hLp z.symm), kp _ _ M4.mem (nin _ (by simp [MA.all])), kp _ _ M4.regs (nin _ (by simp [MA.all])), kp _ _ M4.aside (nin _ (by simp [MA.all])), kp _ _ M4.places (nin _ (by simp [MA.all])), kp _ _ M4.pressed (nin _ (by simp [MA.all])), kp _ _ M4.rows (nin _ (by simp [MA.all])), M4.nd⟩, R4, kp _ _ r4 (fun z => hLr z.symm), ?_, ?_, ?_, hLa4, hnext hl5, hk4⟩, ?_⟩
        · intro b o e
          have n1 : b ≠ p := ne_of_none e np
          have n2 : b ∉ a.all := fun hm => by rw [hfr b hm] at e; cases e
          have n3 : b ≠ r := ne_of_none e (S1.free nr)
          have n4 : b ≠ L := ne_of_none e ((S1.trans S2).free hL)
          exact kp b o (F4 b o (hSm b o e) n1 n2 n3) n4
        · intro b hb
          rcases A4 b hb with e | e
          · exact hfr b e
          · exact hSm.free e
        · rw [upd_same, List.map_append, List.map_cons, List.append_assoc, List.length_map]
          rfl
        · rw [far_eq (kp _ _ r4 (fun z => hLr z.symm)), far_eq hr']
          omega
      · have hk2 : ns.length ≤ k := by
          simpa using e
        refine ⟨_, rfl, ?_⟩
        have e2 := hRs.done hk2
        rw [← e2] at hO
        exact h H' L hO
    · intro σ H Q Q' hq hc
      obtain ⟨v, e1, x, y, z, e2, e3, e4, hc⟩ := hc
      obtain ⟨r2, dr2, c2, k2, ns2, e5, e6, e7, b, e8, hc⟩ := hc
      exact ⟨v, e1, x, y, z, e2, e3, e4, r2, dr2, c2, k2, ns2, e5, e6, e7, b, e8, hq _ _ hc⟩
end
end Sg
end
section
set_option Elab.async false
set_option linter.all false
set_option maxRecDepth 100000
set_option maxHeartbeats 2000000
set_option hygiene false
namespace Sg
open PySem PySem.Spec PyProof.Rows L2
local macro_rules | `(tactic| walk_at "rd") => `(tactic| simp only [tRet, tRetN, tIf, tIfS, tTest, tOp, tUn, tVar, tC, tSeq, tAsg, gName, tDrop, tNext, tFld, sFld, sFldAug, tCall, tMeth, tCB, tCons, tNil, tLst, tTup, tAnd, tOr, tNot, tAndV, tOrV, tNotV, tSl, tPart, tNoPart, rU, rI, rI0, rEq, rNe, rAdd, rSub, rIxL, rSetL, gSub, start_def, scal_ii, scal_bb, cxOf_K, List.map_cons, List.map_nil, List.cons_append, List.nil_append, List.append_nil, List.length_cons, List.length_nil, Nat.reduceAdd, Nat.reduceSub, List.replicate_succ, List.replicate_zero, List.getElem?_cons_zero, List.getElem?_cons_succ, List.set_cons_zero, List.set_cons_succ, Option.some.injEq, V.int.injEq, V.ref.injEq, V.bl.injEq, HO.ins.injEq, HO.lst.injEq, exists_eq_left, exists_eq_left', exists_and_left, and_assoc, true_and, and_true, decide_eq_true_eq, mf_len, lk_numbers, lk_place, lk_take, pt_place, rf_len, lk_mem, lk_regs, lk_aside, lk_i, lk_pc, lk_places, lk_wait, lk_sound, lk_pressed, lk_chance, lk_large, lk_rows, lk_why, pt_why, pt_mem, pt_rows, tIxK, tCallV, pt_i, pt_pc, pt_wait, pt_sound, pt_chance, pt_large, upd_same, upd_upd, List.cons.injEq, ite_true, ite_false, eq_self, Int.reduceEq, Int.reduceNeg, decide_true, decide_false, reduceCtorEq, if_true, if_false, Bool.not_eq_true, Bool.not_true, Bool.not_false, Bool.true_eq_false, Bool.false_eq_true, ← List.map_set, List.length_map, ipI, ipC, tAug, tAugS, rGetL, rAppend, rExtend, rPop, rCat, rRep, gCons, gNil,  rSlL, truV_bl, truV_int, fx, tx])
local macro_rules | `(tactic| walk_at "nx") => `(tactic| try simp only [tSeq, tAsg, tIfS, tTest, tOp, rEq, rNe, tVar, tC, tNext, gName, tRet, tCall, tCons, tNil, scal_ii, start_def, List.map_cons, List.map_nil, List.cons_append, List.nil_append, List.append_nil, List.length_cons, List.length_nil, Nat.reduceAdd, Nat.reduceSub, List.replicate_succ, List.replicate_zero, List.getElem?_cons_zero, List.getElem?_cons_succ, List.set_cons_zero, List.set_cons_succ, Option.some.injEq, V.ref.injEq, V.int.injEq, V.bl.injEq, exists_eq_left', exists_eq_left, exists_and_left, true_and, and_true, and_assoc, ite_true, ite_false, eq_self, Int.reduceEq, Int.reduceNeg, decide_true, decide_false, decide_eq_true_eq, reduceCtorEq, Bool.false_eq_true, if_true, if_false, ↓reduceIte, cxOf_K])
local macro_rules | `(tactic| walk_at "me") => `(tactic| simp only [tMeth, tVar, tNil, List.getElem?_cons_zero, List.getElem?_cons_succ, Option.some.injEq, V.ref.injEq, exists_eq_left', exists_eq_left, fx, HO.ins.injEq, exists_and_left, true_and, and_assoc, lk_take, lk_take_row, List.append_nil, List.nil_append])
section
variable {P : Program} {w : World} {K : PySem.W.Frag} {mg : Str → Option Value} {base : Heap} {A : Ad}
theorem drop_get {ns l : List Int} {k : Nat} {x : Int} (h : ns.drop k = x :: l) : ns[k]? = some x ∧ ns.drop (k + 1) = l := by
  constructor
  · have e := List.getElem?_drop (xs := ns) (i := k) (j := 0)
    rw [h] at e
    simpa using e.symm
  · rw [← List.drop_drop, h]
    rfl
theorem MAt.notR {C CR : Addr} {H : Hp} {p dx r dr c : Addr} {a : MA} {m : MS} {k : Nat} (M : MAt C H p dx a m) (hr : RAt CR H r dr c k) : r ≠ p ∧ r ∉ a.all := by
  refine ⟨ne_of hr M.ob (by intro q; injection q with _ _ q; cases q), fun hb => ?_⟩
  simp only [MA.all, List.mem_cons, List.not_mem_nil, or_false] at hb
  rcases hb with e | e | e | e | e | e
  · exact ne_of hr M.mem (by intro q; cases q) e
  · exact ne_of hr M.regs (by intro q; cases q) e
  · exact ne_of hr M.aside (by intro q; cases q) e
  · exact ne_of hr M.places (by intro q; cases q) e
  · exact ne_of hr M.pressed (by intro q; cases q) e
  · exact ne_of hr M.rows (by intro q; cases q) e
theorem MAt.but {C CR : Addr} {H H' : Hp} {p dx r dr c : Addr} {a : MA} {m : MS} {k : Nat} (M : MAt C H p dx a m) (hr : RAt CR H r dr c k) (B : But H H' r) : MAt C H' p dx a m := by
  have n := M.notR hr
  have n2 : ∀ b ∈ a.all, b ≠ r := fun b hb z => n.2 (z ▸ hb)
  exact ⟨B _ _ M.ob (Ne.symm n.1), B _ _ M.mem (n2 _ (by simp [MA.all])), B _ _ M.regs (n2 _ (by simp [MA.all])), B _ _ M.aside (n2 _ (by simp [MA.all])), B _ _ M.places (n2 _ (by simp [MA.all])), B _ _ M.pressed (n2 _ (by simp [MA.all])), B _ _ M.rows (n2 _ (by simp [MA.all])), M.nd⟩
theorem But.refl (H : Hp) (r : Addr) : But H H r := fun _ _ e _ => e
theorem putAll_why : ∀ (l : List UInt8) (s : Sz36.St) (a : Nat), (Sz36.putAll s a l).why = s.why
  | [], _, _ => rfl
  | b :: r, s, a => by
    show (Sz36.putAll (s.put a b.toNat) (a + 1) r).why = s.why
    rw [putAll_why r]
    rfl
theorem get_eq {m : MS} {s : Sz36.St} (h : R m s) (k : Int) : Sz36.does s (.get k) = (s, Sz36.only (if k < 0 ∨ 20 < k then -1 else getV m k)) := by
  unfold Sz36.does
  dsimp only
  by_cases h0 : k < 0
  · rw [if_pos h0, if_pos (.inl h0)]
  rw [if_neg h0]
  unfold Sz36.St.look getV
  by_cases h1 : k < 16
  · have hk : m.regs[k.toNat]? = some ((s.reg k.toNat : Nat) : Int) := h.reg (by omega)
    rw [if_pos (show k.toNat < 16 by omega), if_neg (by omega), if_pos h1, List.getD_eq_getElem?_getD, hk]
    rfl
  rw [if_neg (show ¬ k.toNat < 16 by omega), if_neg h1]
  by_cases h2 : k = 16
  · subst h2; rw [h.i]; rfl
  rw [if_neg (show ¬ k.toNat = 16 by omega), if_neg h2]
  by_cases h2 : k = 17
  · subst h2; rw [h.pc]; rfl
  rw [if_neg (show ¬ k.toNat = 17 by omega), if_neg h2]
  by_cases h2 : k = 18
  · subst h2; rw [h.wait]; rfl
  rw [if_neg (show ¬ k.toNat = 18 by omega), if_neg h2]
  by_cases h2 : k = 19
  · subst h2; rw [h.sound]; rfl
  rw [if_neg (show ¬ k.toNat = 19 by omega), if_neg h2]
  by_cases h2 : k = 20
  · subst h2; rw [h.placesLen]; rfl
  rw [if_neg (show ¬ k.toNat = 20 by omega), if_pos (by omega)]
theorem set_eq {m : MS} {s : Sz36.St} (h : RW m s) (k v : Int) : (if k < 0 ∨ 19 < k then Sz36.does s (.set k v) = (s, Sz36.only (-1)) else ∃ s', Sz36.does s (.set k v) = (s', Sz36.only 0) ∧ RW (setV m k v) s') := by
  obtain ⟨h, hw⟩ := h
  unfold Sz36.does
  dsimp only
  have hv : (v.emod 65536) = v % 65536 := rfl
  rw [hv]
  by_cases h0 : k < 0
  · rw [if_pos (.inl h0), if_pos h0]
  rw [if_neg h0]
  unfold Sz36.St.change setV
  by_cases h1 : k < 16
  · rw [if_pos (show k.toNat < 16 by omega), if_neg (by omega), if_pos h1]
    refine ⟨_, rfl, ?_, hw⟩
    have q := h.set (x := k.toNat) (by omega) (v % 65536).toNat
    rw [show (((v % 65536).toNat % 256 : Nat) : Int) = v % 256 by omega] at q
    exact q
  rw [if_neg (show ¬ k.toNat < 16 by omega), if_neg h1]
  by_cases h2 : k = 16
  · subst h2
    refine ⟨_, rfl, ?_, hw⟩
    have q := h.setI (a := (v % 65536).toNat % 65536) (by omega)
    rw [show (((v % 65536).toNat % 65536 : Nat) : Int) = v % 65536 by omega] at q
    exact q
  rw [if_neg (show ¬ k.toNat = 16 by omega), if_neg h2]
  by_cases h2 : k = 17
  · subst h2
    refine ⟨_, rfl, ?_, hw⟩
    have q := h.jump (v % 65536).toNat
    rw [show (((v % 65536).toNat % 4096 : Nat) : Int) = v % 4096 by omega] at q
    exact q
  rw [if_neg (show ¬ k.toNat = 17 by omega), if_neg h2]
  by_cases h2 : k = 18
  · subst h2
    refine ⟨_, rfl, ?_, hw⟩
    have q := h.setWait (a := (v % 65536).toNat % 256) (by omega)
    rw [show (((v % 65536).toNat % 256 : Nat) : Int) = v % 256 by omega] at q
    exact q
  rw [if_neg (show ¬ k.toNat = 18 by omega), if_neg h2]
  by_cases h2 : k = 19
  · subst h2
    refine ⟨_, rfl, ?_, hw⟩
    have q := h.setSound (a := (v % 65536).toNat % 256) (by omega)
    rw [show (((v % 65536).toNat % 256 : Nat) : Int) = v % 256 by omega] at q
    exact q
  rw [if_neg (show ¬ k.toNat = 19 by omega), if_pos (by omega)]
theorem ok_answer_call (T : Txt K mg A) : FnOk P w K mg base CX0 7 A.a_answer_call A.d_answer_call ["machine", "reader"] (sp_answer_call A.c_Machine A.c_Reader K) := by
  have G_Reader_take : FnOk P w K mg base CX0 _ _ _ _ _ := ok_Reader_take T
  have G_Reader_take_row : FnOk P w K mg base CX0 _ _ _ _ _ := ok_Reader_take_row T
  have G_c8_clear : FnOk P w K mg base CX0 _ _ _ _ _ := ok_c8_clear T
  have G_c8_load : FnOk P w K mg base CX0 _ _ _ _ _ := ok_c8_load T
  have G_c8_look : FnOk P w K mg base CX0 _ _ _ _ _ := ok_c8_look T
  have G_c8_key : FnOk P w K mg base CX0 _ _ _ _ _ := ok_c8_key T
  have G_c8_tick : FnOk P w K mg base CX0 _ _ _ _ _ := ok_c8_tick T
  have G_c8_run : FnOk P w K mg base CX0 _ _ _ _ _ := ok_c8_run T
  have G_c8_why : FnOk P w K mg base CX0 _ _ _ _ _ := ok_c8_why T
  have G_c8_get : FnOk P w K mg base CX0 _ _ _ _ _ := ok_c8_get T
  have G_c8_set : FnOk P w K mg base CX0 _ _ _ _ _ := ok_c8_set T
  have G_c8_screen : FnOk P w K mg base CX0 _ _ _ _ _ := ok_c8_screen T
  refine T.f_answer_call.ok sc_answer_call (fun vs H Q E h => ?_) (fun cdv A' outer s H vs Q E hr h => ?_)
  · obtain ⟨p, dx, a, m, r, dr, c, k, ns, s, cl, t, rfl, _⟩ := h; rfl
  · obtain ⟨p, dx, a, m, r, dr, c, k, ns, sx, cl, t, rfl, M, hR, hrA, hSq, hk, hcal, has, h⟩ := h
    refine ⟨_, (pss_cons (ps_set (i := 2) sc_answer_call.nd rfl (Or.inl rfl) (pe_meth0 (pv 1) T.cl_Reader T.m_Reader_take G_Reader_take (hr.mono (by decide)) T.b_Reader_take .nil pass0)) (pss_cons (ps_if (pt_cmpR op_eq (pv 2) (pe_gint rfl T.g_CLEAR) (nomark _)) (pss_one (ps_ret (pe_call G_c8_clear (hr.mono (by decide)) rfl T.g_c8_clear T.f_c8_clear.kp T.b_c8_clear .nil pass0 (pa_cons (pv 0) (pa_cons (pe_meth0 (pv 1) T.cl_Reader T.m_Reader_take G_Reader_take (hr.mono (by decide)) T.b_Reader_take .nil pass0) pa_nil))))) pss_nil) (pss_cons (ps_if (pt_cmpR op_eq (pv 2) (pe_gint rfl T.g_LOAD) (nomark _)) (pss_cons (ps_set (i := 3) sc_answer_call.nd rfl (Or.inl rfl) (pe_meth0 (pv 1) T.cl_Reader T.m_Reader_take G_Reader_take (hr.mono (by decide)) T.b_Reader_take .nil pass0)) (pss_one (ps_ret (pe_call G_c8_load (hr.mono (by decide)) rfl T.g_c8_load T.f_c8_load.kp T.b_c8_load .nil pass0 (pa_cons (pv 0) (pa_cons (pv 3) (pa_cons (pe_meth0 (pv 1) T.cl_Reader T.m_Reader_take_row G_Reader_take_row (hr.mono (by decide)) T.b_Reader_take_row .nil pass0) pa_nil))))))) pss_nil) (pss_cons (ps_if (pt_cmpR op_eq (pv 2) (pe_gint rfl T.g_LOOK) (nomark _)) (pss_cons (ps_set (i := 3) sc_answer_call.nd rfl (Or.inl rfl) (pe_meth0 (pv 1) T.cl_Reader T.m_Reader_take G_Reader_take (hr.mono (by decide)) T.b_Reader_take .nil pass0)) (pss_one (ps_ret (pe_call G_c8_look (hr.mono (by decide)) rfl T.g_c8_look T.f_c8_look.kp T.b_c8_look .nil pass0 (pa_cons (pv 0) (pa_cons (pv 3) (pa_cons (pe_meth0 (pv 1) T.cl_Reader T.m_Reader_take G_Reader_take (hr.mono (by decide)) T.b_Reader_take .nil pass0) pa_nil))))))) pss_nil) (pss_cons (ps_if (pt_cmpR op_eq (pv 2) (pe_gint rfl T.g_KEY) (nomark _)) (pss_cons (ps_set (i := 4) sc_answer_call.nd rfl (Or.inl rfl) (pe_meth0 (pv 1) T.cl_Reader T.m_Reader_take G_Reader_take (hr.mono (by decide)) T.b_Reader_take .nil pass0)) (pss_one (ps_ret (pe_call G_c8_key (hr.mono (by decide)) rfl T.g_c8_key T.f_c8_key.kp T.b_c8_key .nil pass0 (pa_cons (pv 0) (pa_cons (pv 4) (pa_cons (pe_meth0 (pv 1) T.cl_Reader T.m_Reader_take G_Reader_take (hr.mono (by decide)) T.b_Reader_take .nil pass0) pa_nil))))))) pss_nil) (pss_cons (ps_if (pt_cmpR op_eq (pv 2) (pe_gint rfl T.g_TICK) (nomark _)) (pss_one (ps_ret (pe_call G_c8_tick (hr.mono (by decide)) rfl T.g_c8_tick T.f_c8_tick.kp T.b_c8_tick .nil pass0 (pa_cons (pv 0) pa_nil)))) pss_nil) (pss_cons (ps_if (pt_cmpR op_eq (pv 2) (pe_gint rfl T.g_RUN) (nomark _)) (pss_one (ps_ret (pe_call G_c8_run (hr.mono (by decide)) rfl T.g_c8_run T.f_c8_run.kp T.b_c8_run .nil pass0 (pa_cons (pv 0) (pa_cons (pe_meth0 (pv 1) T.cl_Reader T.m_Reader_take G_Reader_take (hr.mono (by decide)) T.b_Reader_take .nil pass0) pa_nil))))) pss_nil) (pss_cons (ps_if (pt_cmpR op_eq (pv 2) (pe_gint rfl T.g_WHY) (nomark _)) (pss_one (ps_ret (pe_call G_c8_why (hr.mono (by decide)) rfl T.g_c8_why T.f_c8_why.kp T.b_c8_why .nil pass0 (pa_cons (pv 0) pa_nil)))) pss_nil) (pss_cons (ps_if (pt_cmpR op_eq (pv 2) (pe_gint rfl T.g_GET) (nomark _)) (pss_one (ps_ret (pe_call G_c8_get (hr.mono (by decide)) rfl T.g_c8_get T.f_c8_get.kp T.b_c8_get .nil pass0 (pa_cons (pv 0) (pa_cons (pe_meth0 (pv 1) T.cl_Reader T.m_Reader_take G_Reader_take (hr.mono (by decide)) T.b_Reader_take .nil pass0) pa_nil))))) pss_nil) (pss_cons (ps_if (pt_cmpR op_eq (pv 2) (pe_gint rfl T.g_SET) (nomark _)) (pss_cons (ps_set (i := 5) sc_answer_call.nd rfl (Or.inl rfl) (pe_meth0 (pv 1) T.cl_Reader T.m_Reader_take G_Reader_take (hr.mono (by decide)) T.b_Reader_take .nil pass0)) (pss_one (ps_ret (pe_call G_c8_set (hr.mono (by decide)) rfl T.g_c8_set T.f_c8_set.kp T.b_c8_set .nil pass0 (pa_cons (pv 0) (pa_cons (pv 5) (pa_cons (pe_meth0 (pv 1) T.cl_Reader T.m_Reader_take G_Reader_take (hr.mono (by decide)) T.b_Reader_take .nil pass0) pa_nil))))))) pss_nil) (pss_cons (ps_if (pt_cmpR op_eq (pv 2) (pe_gint rfl T.g_SCREEN) (nomark _)) (pss_one (ps_ret (pe_call G_c8_screen (hr.mono (by decide)) rfl T.g_c8_screen T.f_c8_screen.kp T.b_c8_screen .nil pass0 (pa_cons (pv 0) pa_nil)))) pss_nil) (pss_one ps_never)))))))))))), ?_⟩
    -- how a call's answer ends it
    have fin : ∀ (H1 : Hp) (k1 : Nat) (m' : MS) (ans : List Int), But H H1 r → RAt A.c_Reader H1 r dr c k1 → MAt A.c_Machine H1 p dx a m → k1 = ns.length - t.length → RW m' (Sz36Neutral.step sx (PySz36.whole cl)).1 → ans = (Sz36Neutral.step sx (PySz36.whole cl)).2 → ans.length < 5000 → Done A.c_Machine H1 p dx a Q m' ans := by
      intro H1 k1 m' ans B1 r1 M1 hk1 hR' hans hl5 H' a' l M' F' A5 nl hl
      have n := M1.notR r1
      subst hk1
      subst hans
      refine h H' a' m' l M' hR' (F' r _ r1 n.1 n.2) hl (fun b o e n1 n2 n3 => F' b o (B1 b o e n3) n1 n2) (fun b hb => ?_) hl5 (B1.free r1 nl)
      rcases A5 b hb with e | e
      · exact .inl e
      · exact .inr (B1.free r1 e)
    have hlt := hcal.len
    have hdd : (ns.drop k).length = ns.length - k := List.length_drop
    have step1 : ∀ {H1 : Hp} {k1 : Nat} {x : Int} {l : List Int} {Q1 : VK}, But H H1 r → RAt A.c_Reader H1 r dr c k1 → ns.drop k1 = x :: l → (∀ H2, But H H2 r → RAt A.c_Reader H2 r dr c (k1 + 1) → MAt A.c_Machine H2 p dx a m → ns.drop (k1 + 1) = l → Q1 (.int x) H2) → sp_take A.c_Reader K [.ref r] H1 Q1 E0 := by
      intro H1 k1 x l Q1 B1 r1 hd kk
      have hg := drop_get hd
      refine ⟨r, dr, c, k1, ns, x, rfl, r1, B1.seq hrA hSq, hg.1, fun H2 r2 B2 => ?_⟩
      exact kk H2 (B1.trans B2) r2 (M.but hrA (B1.trans B2)) hg.2
    have fx : H r = some (.ins A.c_Reader dr (rf c k)) := hrA
    have tx := T.z_Reader
    simp only [tSeq, tAsg, start_def, List.map_cons, List.map_nil, List.cons_append, List.nil_append, List.length_cons, List.length_nil, Nat.reduceAdd, Nat.reduceSub, List.replicate_succ, List.replicate_zero]
    walk_at "me"
    generalize hd : ns.drop k = dl at hcal hlt hdd
    cases hcal with
    | clear sd t =>
      refine step1 (But.refl H r) hrA hd fun H1 B1 r1 M1 d1 => ?_
      walk_at "nx"
      have fx : H1 r = some (.ins A.c_Reader dr (rf c ((k + 1 : Nat) : Int))) := r1
      walk_at "me"
      refine step1 B1 r1 d1 fun H2 B2 r2 M2 d2 => ?_
      have hs : (0 : Int) ≤ sd ∧ sd < 2 ^ 32 := by simpa [Sz36Neutral.asked1, PySz36.whole, Sz36Neutral.natural] using has
      exact ⟨p, dx, a, m, sd, rfl, M2, fin H2 _ _ _ B2 r2 M2 (by simp at hdd; omega) ⟨R.fresh hs.1 hs.2, rfl⟩ rfl (by decide)⟩
    | load at' b t =>
      refine step1 (But.refl H r) hrA hd fun H1 B1 r1 M1 d1 => ?_
      walk_at "nx"
      have fx : H1 r = some (.ins A.c_Reader dr (rf c ((k + 1 : Nat) : Int))) := r1
      walk_at "me"
      refine step1 B1 r1 d1 fun H2 B2 r2 M2 d2 => ?_
      walk_at "nx"
      have fx : H2 r = some (.ins A.c_Reader dr (rf c ((k + 1 + 1 : Nat) : Int))) := r2
      walk_at "me"
      refine ⟨r, dr, c, _, ns, b, t, rfl, r2, B2.seq hrA hSq, d2, fun H3 l r3 B3 nl hl => ?_⟩
      have B23 := B2.trans B3
      have M3 := M.but hrA B23
      have hk3 : k + 1 + 1 + 1 + b.length = ns.length - t.length := by simp at hdd; omega
      have hq : (∀ x ∈ b, 0 ≤ x ∧ x < 256) ∧ b.length ≤ 4096 := by
        have has2 : (Sz36Neutral.whole32 at' && (Sz36Neutral.whole32 (b.length : Int) && (b.all (fun (z : Int) => Sz36Neutral.natural z 8) && Sz36Neutral.long b (b.length : Int) 0 4096))) = true := has
        simp only [Bool.and_eq_true, List.all_eq_true, Sz36Neutral.natural, decide_eq_true_eq, Sz36Neutral.long] at has2
        refine ⟨fun x hx => has2.2.2.1 x hx, ?_⟩
        have e := has2.2.2.2
        split at e <;> omega
      have nlM := M3.none_not (l := l)
      have hb3 : l ∉ a.all := fun hm => by
        have z : H2 l ≠ none := by
          simp only [MA.all, List.mem_cons, List.not_mem_nil, or_false] at hm
          rcases hm with e | e | e | e | e | e <;> rw [e]
          · rw [M2.mem]; simp
          · rw [M2.regs]; simp
          · rw [M2.aside]; simp
          · rw [M2.places]; simp
          · rw [M2.pressed]; simp
          · rw [M2.rows]; simp
        exact z nl
      refine ⟨p, dx, a, m, at', l, b, rfl, M3, by rw [hR.1.mem, tab_len], hl, hb3, hq.2, ite2 (fun e => ?_) fun e => ?_⟩
      · refine fin H3 _ _ _ B23 r3 M3 hk3 ?_ ?_ (by decide)
        · show RW m (Sz36.does sx (.load at' (Sz36Neutral.octets b) (b.length : Int))).1
          simp only [Sz36.does, if_pos (show ((b.length : Int) < 0 ∨ at' < 0 ∨ 4096 < at' + (b.length : Int)) from .inr e)]
          exact hR
        · show _ = (Sz36.does sx (.load at' (Sz36Neutral.octets b) (b.length : Int))).2.value :: (Sz36.does sx (.load at' (Sz36Neutral.octets b) (b.length : Int))).2.bytes.map _
          simp only [Sz36.does, if_pos (show ((b.length : Int) < 0 ∨ at' < 0 ∨ 4096 < at' + (b.length : Int)) from .inr e)]
          rfl
      · have e2 : ¬ ((b.length : Int) < 0 ∨ at' < 0 ∨ 4096 < at' + (b.length : Int)) := by omega
        refine fin H3 _ _ _ B23 r3 M3 hk3 ?_ ?_ (by decide)
        · show RW _ (Sz36.does sx (.load at' (Sz36Neutral.octets b) (b.length : Int))).1
          simp only [Sz36.does, if_neg e2]
          exact ⟨R.load b at'.toNat hR.1 hq.1 (by omega), by rw [putAll_why]; exact hR.2⟩
        · show _ = (Sz36.does sx (.load at' (Sz36Neutral.octets b) (b.length : Int))).2.value :: (Sz36.does sx (.load at' (Sz36Neutral.octets b) (b.length : Int))).2.bytes.map _
          simp only [Sz36.does, if_neg e2]
          rfl
    | look at' n t =>
      refine step1 (But.refl H r) hrA hd fun H1 B1 r1 M1 d1 => ?_
      walk_at "nx"
      have fx : H1 r = some (.ins A.c_Reader dr (rf c ((k + 1 : Nat) : Int))) := r1
      walk_at "me"
      refine step1 B1 r1 d1 fun H2 B2 r2 M2 d2 => ?_
      walk_at "nx"
      have fx : H2 r = some (.ins A.c_Reader dr (rf c ((k + 1 + 1 : Nat) : Int))) := r2
      walk_at "me"
      refine step1 B2 r2 d2 fun H3 B3 r3 M3 d3 => ?_
      have hk3 : k + 1 + 1 + 1 = ns.length - t.length := by simp at hdd; omega
      refine ⟨p, dx, a, m, at', n, rfl, M3, by rw [hR.1.mem, tab_len], ite2 (fun e => ?_) fun e => ?_⟩
      · refine fin H3 _ _ _ B3 r3 M3 hk3 ?_ ?_ (by decide)
        · show RW m (Sz36.does sx (.look at' n)).1
          simp only [Sz36.does, if_pos e]
          exact hR
        · show _ = (Sz36.does sx (.look at' n)).2.value :: (Sz36.does sx (.look at' n)).2.bytes.map _
          simp only [Sz36.does, if_pos e]
          rfl
      · refine fin H3 _ _ _ B3 r3 M3 hk3 ?_ ?_ ?_
        · show RW m (Sz36.does sx (.look at' n)).1
          simp only [Sz36.does, if_neg e]
          exact hR
        · show _ = (Sz36.does sx (.look at' n)).2.value :: (Sz36.does sx (.look at' n)).2.bytes.map (fun (b : UInt8) => (b.toNat : Int))
          simp only [Sz36.does, if_neg e]
          rw [hR.1.look (a := at'.toNat) (n := n.toNat) (by omega)]
        · simp only [List.length_cons, List.length_take, List.length_drop, hR.1.mem, tab_len]
          omega
    | key kk d t =>
      refine step1 (But.refl H r) hrA hd fun H1 B1 r1 M1 d1 => ?_
      walk_at "nx"
      have fx : H1 r = some (.ins A.c_Reader dr (rf c ((k + 1 : Nat) : Int))) := r1
      walk_at "me"
      refine step1 B1 r1 d1 fun H2 B2 r2 M2 d2 => ?_
      walk_at "nx"
      have fx : H2 r = some (.ins A.c_Reader dr (rf c ((k + 1 + 1 : Nat) : Int))) := r2
      walk_at "me"
      refine step1 B2 r2 d2 fun H3 B3 r3 M3 d3 => ?_
      have hk3 : k + 1 + 1 + 1 = ns.length - t.length := by simp at hdd; omega
      refine ⟨p, dx, a, m, kk, d, rfl, M3, by rw [hR.1.pressed, tab_len], ite2 (fun e => ?_) fun e => ?_⟩
      · refine fin H3 _ _ _ B3 r3 M3 hk3 ?_ ?_ (by decide)
        · show RW m (Sz36.does sx (.key kk d)).1
          simp only [Sz36.does, if_pos e]
          exact hR
        · show _ = (Sz36.does sx (.key kk d)).2.value :: (Sz36.does sx (.key kk d)).2.bytes.map _
          simp only [Sz36.does, if_pos e]
          rfl
      · refine fin H3 _ _ _ B3 r3 M3 hk3 ?_ ?_ (by decide)
        · show RW _ (Sz36.does sx (.key kk d)).1
          simp only [Sz36.does, if_neg e]
          exact ⟨hR.1.key (by omega) (by omega) (by omega) (by omega), hR.2⟩
        · show _ = (Sz36.does sx (.key kk d)).2.value :: (Sz36.does sx (.key kk d)).2.bytes.map _
          simp only [Sz36.does, if_neg e]
          rfl
    | tick t =>
      refine step1 (But.refl H r) hrA hd fun H1 B1 r1 M1 d1 => ?_
      walk_at "nx"
      have hk3 : k + 1 = ns.length - t.length := by simp at hdd; omega
      refine ⟨p, dx, a, m, rfl, M1, fin H1 _ _ _ B1 r1 M1 hk3 ⟨hR.1.tick, hR.2⟩ ?_ (by show 1 < 5000; decide)⟩
      show _ = [if 0 < sx.sound then (1 : Int) else 0]
      rw [hR.1.sound]
      by_cases e : sx.sound = 0
      · rw [e]; rfl
      · rw [if_neg (by omega), if_pos (by omega)]
    | run n t =>
      refine step1 (But.refl H r) hrA hd fun H1 B1 r1 M1 d1 => ?_
      walk_at "nx"
      have fx : H1 r = some (.ins A.c_Reader dr (rf c ((k + 1 : Nat) : Int))) := r1
      walk_at "me"
      refine step1 B1 r1 d1 fun H2 B2 r2 M2 d2 => ?_
      have hk3 : k + 1 + 1 = ns.length - t.length := by simp at hdd; omega
      refine ⟨p, dx, a, m, sx, n, rfl, M2, hR.1, ite2 (fun e => ?_) fun e m' r' w' => ?_⟩
      · refine fin H2 _ _ _ B2 r2 M2 hk3 ?_ ?_ (by decide)
        · show RW m (Sz36.does sx (.run n)).1
          simp only [Sz36.does, if_pos e]
          exact hR
        · show _ = (Sz36.does sx (.run n)).2.value :: (Sz36.does sx (.run n)).2.bytes.map _
          simp only [Sz36.does, if_pos e]
          rfl
      · refine fin H2 _ _ _ B2 r2 M2 hk3 ?_ ?_ (by show 1 < 5000; decide)
        · show RW m' (Sz36.does sx (.run n)).1
          simp only [Sz36.does, if_neg e]
          exact ⟨r', w'⟩
        · show _ = (Sz36.does sx (.run n)).2.value :: (Sz36.does sx (.run n)).2.bytes.map _
          simp only [Sz36.does, if_neg e]
          rfl
    | why t =>
      refine step1 (But.refl H r) hrA hd fun H1 B1 r1 M1 d1 => ?_
      walk_at "nx"
      have hk3 : k + 1 = ns.length - t.length := by simp at hdd; omega
      refine ⟨p, dx, a, m, rfl, M1, fin H1 _ _ _ B1 r1 M1 hk3 hR ?_ (by show 1 < 5000; decide)⟩
      show _ = [((sx.why : Nat) : Int)]
      rw [hR.2]
    | get n t =>
      refine step1 (But.refl H r) hrA hd fun H1 B1 r1 M1 d1 => ?_
      walk_at "nx"
      have fx : H1 r = some (.ins A.c_Reader dr (rf c ((k + 1 : Nat) : Int))) := r1
      walk_at "me"
      refine step1 B1 r1 d1 fun H2 B2 r2 M2 d2 => ?_
      have hk3 : k + 1 + 1 = ns.length - t.length := by simp at hdd; omega
      have eg := get_eq hR.1 n
      refine ⟨p, dx, a, m, sx, n, rfl, M2, hR.1, ite2 (fun e => ?_) fun e => ?_⟩
      · rw [if_pos e] at eg
        refine fin H2 _ _ _ B2 r2 M2 hk3 ?_ ?_ (by decide)
        · show RW m (Sz36.does sx (.get n)).1
          rw [eg]
          exact hR
        · show _ = (Sz36.does sx (.get n)).2.value :: (Sz36.does sx (.get n)).2.bytes.map _
          rw [eg]
          rfl
      · rw [if_neg e] at eg
        refine fin H2 _ _ _ B2 r2 M2 hk3 ?_ ?_ (by show 1 < 5000; decide)
        · show RW m (Sz36.does sx (.get n)).1
          rw [eg]
          exact hR
        · show _ = (Sz36.does sx (.get n)).2.value :: (Sz36.does sx (.get n)).2.bytes.map _
          rw [eg]
          rfl
    | set n v t =>
      refine step1 (But.refl H r) hrA hd fun H1 B1 r1 M1 d1 => ?_
      walk_at "nx"
      have fx : H1 r = some (.ins A.c_Reader dr (rf c ((k + 1 : Nat) : Int))) := r1
      walk_at "me"
      refine step1 B1 r1 d1 fun H2 B2 r2 M2 d2 => ?_
      walk_at "nx"
      have fx : H2 r = some (.ins A.c_Reader dr (rf c ((k + 1 + 1 : Nat) : Int))) := r2
      walk_at "me"
      refine step1 B2 r2 d2 fun H3 B3 r3 M3 d3 => ?_
      have hk3 : k + 1 + 1 + 1 = ns.length - t.length := by simp at hdd; omega
      have eg := set_eq hR n v
      refine ⟨p, dx, a, m, sx, n, v, rfl, M3, hR.1, ite2 (fun e => ?_) fun e => ?_⟩
      · rw [if_pos e] at eg
        refine fin H3 _ _ _ B3 r3 M3 hk3 ?_ ?_ (by decide)
        · show RW m (Sz36.does sx (.set n v)).1
          rw [eg]
          exact hR
        · show _ = (Sz36.does sx (.set n v)).2.value :: (Sz36.does sx (.set n v)).2.bytes.map _
          rw [eg]
          rfl
      · rw [if_neg e] at eg
        obtain ⟨s', eg, hR'⟩ := eg
        refine fin H3 _ _ _ B3 r3 M3 hk3 ?_ ?_ (by decide)
        · show RW _ (Sz36.does sx (.set n v)).1
          rw [eg]
          exact hR'
        · show _ = (Sz36.does sx (.set n v)).2.value :: (Sz36.does sx (.set n v)).2.bytes.map _
          rw [eg]
          rfl
    | screen t =>
      refine step1 (But.refl H r) hrA hd fun H1 B1 r1 M1 d1 => ?_
      walk_at "nx"
      have hk3 : k + 1 = ns.length - t.length := by simp at hdd; omega
      have tlen : (toldN sx (Sz36.high sx)).length = Sz36.wide sx / 8 * Sz36.high sx := by unfold toldN; exact flatN_len _ _ _
      have hle : Sz36.wide sx / 8 * Sz36.high sx ≤ 1024 := by rcases wide_le sx with e | e <;> rcases high_le sx with e' | e' <;> rw [e, e'] <;> decide
      refine ⟨p, dx, a, m, sx, rfl, M1, hR.1, fin H1 _ _ _ B1 r1 M1 hk3 hR ?_ ?_⟩
      · show _ = (if sx.large = true then (1 : Int) else 0) :: (Sz36.shown sx).map (fun (b : UInt8) => (b.toNat : Int))
        rw [shown_told hR.1, hR.1.large]
      · simp only [List.length_cons, List.length_append, List.length_replicate, tlen]
        omega
end
end Sg
end
set_option Elab.async false
set_option linter.all false
set_option maxRecDepth 100000
set_option maxHeartbeats 2000000
namespace Sg
open PySem PySem.Spec PyProof.Rows L2
theorem vals_abs : ∀ {xs : List V} {us : List Value}, us.map absV = xs.map some → Vals xs us
  | [], [], _ => .nil
  | [], _ :: _, h => by simp at h
  | _ :: _, [], h => by simp at h
  | x :: xs, u :: us, h => by
    simp only [List.map_cons, List.cons.injEq] at h
    refine .cons ?_ (vals_abs h.2)
    have h1 := h.1
    cases u <;> simp only [absV, Option.some.injEq] at h1 <;> first | (cases h1; first | exact rfl | exact ⟨_, rfl⟩) | cases h1
theorem tupK_mk {K : PySem.W.Frag} {a : Addr} {od : Option Addr} {its : Array Value} {n : Nat} {sl : Array (Option Value)} {xs : List V} (l : K.lookup a = some ⟨.type "tuple", od, .seq its n, sl⟩) (v : its.toList.map absV = xs.map some) (hl : xs.length ≤ 1000) : TupK K a xs := by
  have r := vals_abs v
  have e := r.length
  refine ⟨_, its, n, l, rfl, rfl, ?_, r⟩
  have e2 : its.toList.length = its.size := by simp
  have e3 : its.size = xs.length := by rw [← e2]; exact e.symm
  rw [e3]
  exact Nat.le_of_lt (small1000 hl)
theorem dicK_mk {K : PySem.W.Frag} {a : Addr} {es : Array DictEntry} {n : Nat} {kvs : List (Int × Addr)} (l : K.lookup a = some ⟨.type "dict", none, .dict es n, #[]⟩) (w : (a == sysModules) = false) (v : es.toList.map absE = kvs.map some) (nd : (kvs.map (·.1)).Nodup) : DicK K a kvs := ⟨es, n, l, w, v, nd⟩
theorem all_mk {P : Program} {w : World} {K : PySem.W.Frag} {h : Heap} {mg : Str → Option Value} {fa : Addr} (X : K.In h) (G : h.Ns mainGlobals mg) (hfa : mg "answers" = some (.ref fa))
    {tk_GOES_ON : Tok}
    {tk_UNKNOWN : Tok}
    {tk_NO_KEY : Tok}
    {tk_WRONG_PLACES : Tok}
    {tk_ENDED : Tok}
    {tk_MEMORY_SIZE : Tok}
    {tk_BYTE_COUNT : Tok}
    {tk_WORD_COUNT : Tok}
    {tk_REGISTER_COUNT : Tok}
    {tk_VF : Tok}
    {tk_KEY_COUNT : Tok}
    {tk_ASIDE_COUNT : Tok}
    {tk_PLACE_COUNT : Tok}
    {tk_FIRST_PC : Tok}
    {tk_SMALL_HEIGHT : Tok}
    {tk_LARGE_HEIGHT : Tok}
    {k_DIGITS : Addr}
    {od_DIGITS : Option Addr} {its_DIGITS : Array Value} {n_DIGITS : Nat} {sl_DIGITS : Array (Option Value)}
    {tk_STATE_COUNT : Tok}
    {tk_SMALL_WIDTH : Tok}
    {tk_LARGE_WIDTH : Tok}
    {tk_SCREEN_BYTES : Tok}
    {tk_COLUMNS_MOVED : Tok}
    {tk_DIGIT_BYTES : Tok}
    {tk_LARGE_DIGITS_AT : Tok}
    {tk_LARGE_DIGIT_BYTES : Tok}
    {tk_DONE : Tok}
    {tk_REFUSED : Tok}
    {tk_LONGEST_RUN : Tok}
    {tk_I_REGISTER : Tok}
    {tk_PC_REGISTER : Tok}
    {tk_WAIT_TIMER : Tok}
    {tk_SOUND_TIMER : Tok}
    {tk_PLACES_THERE : Tok}
    {tk_CLEAR : Tok}
    {tk_LOAD : Tok}
    {tk_LOOK : Tok}
    {tk_KEY : Tok}
    {tk_TICK : Tok}
    {tk_RUN : Tok}
    {tk_WHY : Tok}
    {tk_GET : Tok}
    {tk_SET : Tok}
    {tk_SCREEN : Tok}
    {k_CALCULATIONS : Addr}
    {es_CALCULATIONS : Array DictEntry} {n_CALCULATIONS : Nat}
    {k_TRANSFERS : Addr}
    {es_TRANSFERS : Array DictEntry} {n_TRANSFERS : Nat}
    {k_BY_FIRST_DIGIT : Addr}
    {od_BY_FIRST_DIGIT : Option Addr} {its_BY_FIRST_DIGIT : Array Value} {n_BY_FIRST_DIGIT : Nat} {sl_BY_FIRST_DIGIT : Array (Option Value)}
    {c_Machine : Addr}
    {c_Reader : Addr}
    {a_Machine___init__ : Addr} {od_Machine___init__ an_Machine___init__ : Option Addr} {sl_Machine___init__ : Array (Option Value)} {oc_Machine___init__ kV_Machine___init__ dc_Machine___init__ pm_Machine___init__ cd_Machine___init__ ct_Machine___init__ : Value}
    {a_Machine_begin : Addr} {od_Machine_begin an_Machine_begin : Option Addr} {sl_Machine_begin : Array (Option Value)} {oc_Machine_begin kV_Machine_begin dc_Machine_begin pm_Machine_begin cd_Machine_begin ct_Machine_begin : Value}
    {a_put_with_vf : Addr} {od_put_with_vf an_put_with_vf : Option Addr} {sl_put_with_vf : Array (Option Value)} {oc_put_with_vf kV_put_with_vf dc_put_with_vf pm_put_with_vf cd_put_with_vf ct_put_with_vf : Value}
    {a_put_y : Addr} {od_put_y an_put_y : Option Addr} {sl_put_y : Array (Option Value)} {oc_put_y kV_put_y dc_put_y pm_put_y cd_put_y ct_put_y : Value}
    {a_put_or : Addr} {od_put_or an_put_or : Option Addr} {sl_put_or : Array (Option Value)} {oc_put_or kV_put_or dc_put_or pm_put_or cd_put_or ct_put_or : Value}
    {a_put_and : Addr} {od_put_and an_put_and : Option Addr} {sl_put_and : Array (Option Value)} {oc_put_and kV_put_and dc_put_and pm_put_and cd_put_and ct_put_and : Value}
    {a_put_exclusive_or : Addr} {od_put_exclusive_or an_put_exclusive_or : Option Addr} {sl_put_exclusive_or : Array (Option Value)} {oc_put_exclusive_or kV_put_exclusive_or dc_put_exclusive_or pm_put_exclusive_or cd_put_exclusive_or ct_put_exclusive_or : Value}
    {a_put_sum : Addr} {od_put_sum an_put_sum : Option Addr} {sl_put_sum : Array (Option Value)} {oc_put_sum kV_put_sum dc_put_sum pm_put_sum cd_put_sum ct_put_sum : Value}
    {a_put_x_less_y : Addr} {od_put_x_less_y an_put_x_less_y : Option Addr} {sl_put_x_less_y : Array (Option Value)} {oc_put_x_less_y kV_put_x_less_y dc_put_x_less_y pm_put_x_less_y cd_put_x_less_y ct_put_x_less_y : Value}
    {a_put_y_less_x : Addr} {od_put_y_less_x an_put_y_less_x : Option Addr} {sl_put_y_less_x : Array (Option Value)} {oc_put_y_less_x kV_put_y_less_x dc_put_y_less_x pm_put_y_less_x cd_put_y_less_x ct_put_y_less_x : Value}
    {a_put_half : Addr} {od_put_half an_put_half : Option Addr} {sl_put_half : Array (Option Value)} {oc_put_half kV_put_half dc_put_half pm_put_half cd_put_half ct_put_half : Value}
    {a_put_double : Addr} {od_put_double an_put_double : Option Addr} {sl_put_double : Array (Option Value)} {oc_put_double kV_put_double dc_put_double pm_put_double cd_put_double ct_put_double : Value}
    {a_calculate : Addr} {od_calculate an_calculate : Option Addr} {sl_calculate : Array (Option Value)} {oc_calculate kV_calculate dc_calculate pm_calculate cd_calculate ct_calculate : Value}
    {a_next_chance : Addr} {od_next_chance an_next_chance : Option Addr} {sl_next_chance : Array (Option Value)} {oc_next_chance kV_next_chance dc_next_chance pm_next_chance cd_next_chance ct_next_chance : Value}
    {a_screen_width : Addr} {od_screen_width an_screen_width : Option Addr} {sl_screen_width : Array (Option Value)} {oc_screen_width kV_screen_width dc_screen_width pm_screen_width cd_screen_width ct_screen_width : Value}
    {a_darken : Addr} {od_darken an_darken : Option Addr} {sl_darken : Array (Option Value)} {oc_darken kV_darken dc_darken pm_darken cd_darken ct_darken : Value}
    {a_make_small : Addr} {od_make_small an_make_small : Option Addr} {sl_make_small : Array (Option Value)} {oc_make_small kV_make_small dc_make_small pm_make_small cd_make_small ct_make_small : Value}
    {a_make_large : Addr} {od_make_large an_make_large : Option Addr} {sl_make_large : Array (Option Value)} {oc_make_large kV_make_large dc_make_large pm_make_large cd_make_large ct_make_large : Value}
    {a_move_down : Addr} {od_move_down an_move_down : Option Addr} {sl_move_down : Array (Option Value)} {oc_move_down kV_move_down dc_move_down pm_move_down cd_move_down ct_move_down : Value}
    {a_move_right : Addr} {od_move_right an_move_right : Option Addr} {sl_move_right : Array (Option Value)} {oc_move_right kV_move_right dc_move_right pm_move_right cd_move_right ct_move_right : Value}
    {a_move_left : Addr} {od_move_left an_move_left : Option Addr} {sl_move_left : Array (Option Value)} {oc_move_left kV_move_left dc_move_left pm_move_left cd_move_left ct_move_left : Value}
    {a_lay_shape : Addr} {od_lay_shape an_lay_shape : Option Addr} {sl_lay_shape : Array (Option Value)} {oc_lay_shape kV_lay_shape dc_lay_shape pm_lay_shape cd_lay_shape ct_lay_shape : Value}
    {a_fit_points : Addr} {od_fit_points an_fit_points : Option Addr} {sl_fit_points : Array (Option Value)} {oc_fit_points kV_fit_points dc_fit_points pm_fit_points cd_fit_points ct_fit_points : Value}
    {a_screen_bytes : Addr} {od_screen_bytes an_screen_bytes : Option Addr} {sl_screen_bytes : Array (Option Value)} {oc_screen_bytes kV_screen_bytes dc_screen_bytes pm_screen_bytes cd_screen_bytes ct_screen_bytes : Value}
    {a_take_wait : Addr} {od_take_wait an_take_wait : Option Addr} {sl_take_wait : Array (Option Value)} {oc_take_wait kV_take_wait dc_take_wait pm_take_wait cd_take_wait ct_take_wait : Value}
    {a_take_key : Addr} {od_take_key an_take_key : Option Addr} {sl_take_key : Array (Option Value)} {oc_take_key kV_take_key dc_take_key pm_take_key cd_take_key ct_take_key : Value}
    {a_set_wait : Addr} {od_set_wait an_set_wait : Option Addr} {sl_set_wait : Array (Option Value)} {oc_set_wait kV_set_wait dc_set_wait pm_set_wait cd_set_wait ct_set_wait : Value}
    {a_set_sound : Addr} {od_set_sound an_set_sound : Option Addr} {sl_set_sound : Array (Option Value)} {oc_set_sound kV_set_sound dc_set_sound pm_set_sound cd_set_sound ct_set_sound : Value}
    {a_move_i_on : Addr} {od_move_i_on an_move_i_on : Option Addr} {sl_move_i_on : Array (Option Value)} {oc_move_i_on kV_move_i_on dc_move_i_on pm_move_i_on cd_move_i_on ct_move_i_on : Value}
    {a_point_at_digit : Addr} {od_point_at_digit an_point_at_digit : Option Addr} {sl_point_at_digit : Array (Option Value)} {oc_point_at_digit kV_point_at_digit dc_point_at_digit pm_point_at_digit cd_point_at_digit ct_point_at_digit : Value}
    {a_point_at_large_digit : Addr} {od_point_at_large_digit an_point_at_large_digit : Option Addr} {sl_point_at_large_digit : Array (Option Value)} {oc_point_at_large_digit kV_point_at_large_digit dc_point_at_large_digit pm_point_at_large_digit cd_point_at_large_digit ct_point_at_large_digit : Value}
    {a_write_decimal : Addr} {od_write_decimal an_write_decimal : Option Addr} {sl_write_decimal : Array (Option Value)} {oc_write_decimal kV_write_decimal dc_write_decimal pm_write_decimal cd_write_decimal ct_write_decimal : Value}
    {a_write_registers : Addr} {od_write_registers an_write_registers : Option Addr} {sl_write_registers : Array (Option Value)} {oc_write_registers kV_write_registers dc_write_registers pm_write_registers cd_write_registers ct_write_registers : Value}
    {a_read_registers : Addr} {od_read_registers an_read_registers : Option Addr} {sl_read_registers : Array (Option Value)} {oc_read_registers kV_read_registers dc_read_registers pm_read_registers cd_read_registers ct_read_registers : Value}
    {a_keep_aside : Addr} {od_keep_aside an_keep_aside : Option Addr} {sl_keep_aside : Array (Option Value)} {oc_keep_aside kV_keep_aside dc_keep_aside pm_keep_aside cd_keep_aside ct_keep_aside : Value}
    {a_take_from_aside : Addr} {od_take_from_aside an_take_from_aside : Option Addr} {sl_take_from_aside : Array (Option Value)} {oc_take_from_aside kV_take_from_aside dc_take_from_aside pm_take_from_aside cd_take_from_aside ct_take_from_aside : Value}
    {a_transfer : Addr} {od_transfer an_transfer : Option Addr} {sl_transfer : Array (Option Value)} {oc_transfer kV_transfer dc_transfer pm_transfer cd_transfer ct_transfer : Value}
    {a_digit_x : Addr} {od_digit_x an_digit_x : Option Addr} {sl_digit_x : Array (Option Value)} {oc_digit_x kV_digit_x dc_digit_x pm_digit_x cd_digit_x ct_digit_x : Value}
    {a_digit_y : Addr} {od_digit_y an_digit_y : Option Addr} {sl_digit_y : Array (Option Value)} {oc_digit_y kV_digit_y dc_digit_y pm_digit_y cd_digit_y ct_digit_y : Value}
    {a_value_x : Addr} {od_value_x an_value_x : Option Addr} {sl_value_x : Array (Option Value)} {oc_value_x kV_value_x dc_value_x pm_value_x cd_value_x ct_value_x : Value}
    {a_value_y : Addr} {od_value_y an_value_y : Option Addr} {sl_value_y : Array (Option Value)} {oc_value_y kV_value_y dc_value_y pm_value_y cd_value_y ct_value_y : Value}
    {a_go_to : Addr} {od_go_to an_go_to : Option Addr} {sl_go_to : Array (Option Value)} {oc_go_to kV_go_to dc_go_to pm_go_to cd_go_to ct_go_to : Value}
    {a_pass_over_if : Addr} {od_pass_over_if an_pass_over_if : Option Addr} {sl_pass_over_if : Array (Option Value)} {oc_pass_over_if kV_pass_over_if dc_pass_over_if pm_pass_over_if cd_pass_over_if ct_pass_over_if : Value}
    {a_come_back : Addr} {od_come_back an_come_back : Option Addr} {sl_come_back : Array (Option Value)} {oc_come_back kV_come_back dc_come_back pm_come_back cd_come_back ct_come_back : Value}
    {a_change_screen : Addr} {od_change_screen an_change_screen : Option Addr} {sl_change_screen : Array (Option Value)} {oc_change_screen kV_change_screen dc_change_screen pm_change_screen cd_change_screen ct_change_screen : Value}
    {a_do_without_registers : Addr} {od_do_without_registers an_do_without_registers : Option Addr} {sl_do_without_registers : Array (Option Value)} {oc_do_without_registers kV_do_without_registers dc_do_without_registers pm_do_without_registers cd_do_without_registers ct_do_without_registers : Value}
    {a_jump : Addr} {od_jump an_jump : Option Addr} {sl_jump : Array (Option Value)} {oc_jump kV_jump dc_jump pm_jump cd_jump ct_jump : Value}
    {a_jump_and_come_back : Addr} {od_jump_and_come_back an_jump_and_come_back : Option Addr} {sl_jump_and_come_back : Array (Option Value)} {oc_jump_and_come_back kV_jump_and_come_back dc_jump_and_come_back pm_jump_and_come_back cd_jump_and_come_back ct_jump_and_come_back : Value}
    {a_pass_if_number : Addr} {od_pass_if_number an_pass_if_number : Option Addr} {sl_pass_if_number : Array (Option Value)} {oc_pass_if_number kV_pass_if_number dc_pass_if_number pm_pass_if_number cd_pass_if_number ct_pass_if_number : Value}
    {a_pass_if_not_number : Addr} {od_pass_if_not_number an_pass_if_not_number : Option Addr} {sl_pass_if_not_number : Array (Option Value)} {oc_pass_if_not_number kV_pass_if_not_number dc_pass_if_not_number pm_pass_if_not_number cd_pass_if_not_number ct_pass_if_not_number : Value}
    {a_pass_if_equal : Addr} {od_pass_if_equal an_pass_if_equal : Option Addr} {sl_pass_if_equal : Array (Option Value)} {oc_pass_if_equal kV_pass_if_equal dc_pass_if_equal pm_pass_if_equal cd_pass_if_equal ct_pass_if_equal : Value}
    {a_put_number : Addr} {od_put_number an_put_number : Option Addr} {sl_put_number : Array (Option Value)} {oc_put_number kV_put_number dc_put_number pm_put_number cd_put_number ct_put_number : Value}
    {a_add_number : Addr} {od_add_number an_add_number : Option Addr} {sl_add_number : Array (Option Value)} {oc_add_number kV_add_number dc_add_number pm_add_number cd_add_number ct_add_number : Value}
    {a_do_calculation : Addr} {od_do_calculation an_do_calculation : Option Addr} {sl_do_calculation : Array (Option Value)} {oc_do_calculation kV_do_calculation dc_do_calculation pm_do_calculation cd_do_calculation ct_do_calculation : Value}
    {a_pass_if_unequal : Addr} {od_pass_if_unequal an_pass_if_unequal : Option Addr} {sl_pass_if_unequal : Array (Option Value)} {oc_pass_if_unequal kV_pass_if_unequal dc_pass_if_unequal pm_pass_if_unequal cd_pass_if_unequal ct_pass_if_unequal : Value}
    {a_put_i : Addr} {od_put_i an_put_i : Option Addr} {sl_put_i : Array (Option Value)} {oc_put_i kV_put_i dc_put_i pm_put_i cd_put_i ct_put_i : Value}
    {a_jump_further : Addr} {od_jump_further an_jump_further : Option Addr} {sl_jump_further : Array (Option Value)} {oc_jump_further kV_jump_further dc_jump_further pm_jump_further cd_jump_further ct_jump_further : Value}
    {a_take_chance : Addr} {od_take_chance an_take_chance : Option Addr} {sl_take_chance : Array (Option Value)} {oc_take_chance kV_take_chance dc_take_chance pm_take_chance cd_take_chance ct_take_chance : Value}
    {a_draw : Addr} {od_draw an_draw : Option Addr} {sl_draw : Array (Option Value)} {oc_draw kV_draw dc_draw pm_draw cd_draw ct_draw : Value}
    {a_narrow_shape : Addr} {od_narrow_shape an_narrow_shape : Option Addr} {sl_narrow_shape : Array (Option Value)} {oc_narrow_shape kV_narrow_shape dc_narrow_shape pm_narrow_shape cd_narrow_shape ct_narrow_shape : Value}
    {a_wide_shape : Addr} {od_wide_shape an_wide_shape : Option Addr} {sl_wide_shape : Array (Option Value)} {oc_wide_shape kV_wide_shape dc_wide_shape pm_wide_shape cd_wide_shape ct_wide_shape : Value}
    {a_word_at : Addr} {od_word_at an_word_at : Option Addr} {sl_word_at : Array (Option Value)} {oc_word_at kV_word_at dc_word_at pm_word_at cd_word_at ct_word_at : Value}
    {a_pass_by_key : Addr} {od_pass_by_key an_pass_by_key : Option Addr} {sl_pass_by_key : Array (Option Value)} {oc_pass_by_key kV_pass_by_key dc_pass_by_key pm_pass_by_key cd_pass_by_key ct_pass_by_key : Value}
    {a_do_transfer : Addr} {od_do_transfer an_do_transfer : Option Addr} {sl_do_transfer : Array (Option Value)} {oc_do_transfer kV_do_transfer dc_do_transfer pm_do_transfer cd_do_transfer ct_do_transfer : Value}
    {a_do_instruction : Addr} {od_do_instruction an_do_instruction : Option Addr} {sl_do_instruction : Array (Option Value)} {oc_do_instruction kV_do_instruction dc_do_instruction pm_do_instruction cd_do_instruction ct_do_instruction : Value}
    {a_c8_clear : Addr} {od_c8_clear an_c8_clear : Option Addr} {sl_c8_clear : Array (Option Value)} {oc_c8_clear kV_c8_clear dc_c8_clear pm_c8_clear cd_c8_clear ct_c8_clear : Value}
    {a_c8_load : Addr} {od_c8_load an_c8_load : Option Addr} {sl_c8_load : Array (Option Value)} {oc_c8_load kV_c8_load dc_c8_load pm_c8_load cd_c8_load ct_c8_load : Value}
    {a_c8_look : Addr} {od_c8_look an_c8_look : Option Addr} {sl_c8_look : Array (Option Value)} {oc_c8_look kV_c8_look dc_c8_look pm_c8_look cd_c8_look ct_c8_look : Value}
    {a_is_in_memory : Addr} {od_is_in_memory an_is_in_memory : Option Addr} {sl_is_in_memory : Array (Option Value)} {oc_is_in_memory kV_is_in_memory dc_is_in_memory pm_is_in_memory cd_is_in_memory ct_is_in_memory : Value}
    {a_c8_key : Addr} {od_c8_key an_c8_key : Option Addr} {sl_c8_key : Array (Option Value)} {oc_c8_key kV_c8_key dc_c8_key pm_c8_key cd_c8_key ct_c8_key : Value}
    {a_c8_tick : Addr} {od_c8_tick an_c8_tick : Option Addr} {sl_c8_tick : Array (Option Value)} {oc_c8_tick kV_c8_tick dc_c8_tick pm_c8_tick cd_c8_tick ct_c8_tick : Value}
    {a_one_less : Addr} {od_one_less an_one_less : Option Addr} {sl_one_less : Array (Option Value)} {oc_one_less kV_one_less dc_one_less pm_one_less cd_one_less ct_one_less : Value}
    {a_c8_run : Addr} {od_c8_run an_c8_run : Option Addr} {sl_c8_run : Array (Option Value)} {oc_c8_run kV_c8_run dc_c8_run pm_c8_run cd_c8_run ct_c8_run : Value}
    {a_c8_why : Addr} {od_c8_why an_c8_why : Option Addr} {sl_c8_why : Array (Option Value)} {oc_c8_why kV_c8_why dc_c8_why pm_c8_why cd_c8_why ct_c8_why : Value}
    {a_c8_get : Addr} {od_c8_get an_c8_get : Option Addr} {sl_c8_get : Array (Option Value)} {oc_c8_get kV_c8_get dc_c8_get pm_c8_get cd_c8_get ct_c8_get : Value}
    {a_c8_set : Addr} {od_c8_set an_c8_set : Option Addr} {sl_c8_set : Array (Option Value)} {oc_c8_set kV_c8_set dc_c8_set pm_c8_set cd_c8_set ct_c8_set : Value}
    {a_c8_screen : Addr} {od_c8_screen an_c8_screen : Option Addr} {sl_c8_screen : Array (Option Value)} {oc_c8_screen kV_c8_screen dc_c8_screen pm_c8_screen cd_c8_screen ct_c8_screen : Value}
    {a_Reader___init__ : Addr} {od_Reader___init__ an_Reader___init__ : Option Addr} {sl_Reader___init__ : Array (Option Value)} {oc_Reader___init__ kV_Reader___init__ dc_Reader___init__ pm_Reader___init__ cd_Reader___init__ ct_Reader___init__ : Value}
    {a_Reader_has_more : Addr} {od_Reader_has_more an_Reader_has_more : Option Addr} {sl_Reader_has_more : Array (Option Value)} {oc_Reader_has_more kV_Reader_has_more dc_Reader_has_more pm_Reader_has_more cd_Reader_has_more ct_Reader_has_more : Value}
    {a_Reader_take : Addr} {od_Reader_take an_Reader_take : Option Addr} {sl_Reader_take : Array (Option Value)} {oc_Reader_take kV_Reader_take dc_Reader_take pm_Reader_take cd_Reader_take ct_Reader_take : Value}
    {a_Reader_take_row : Addr} {od_Reader_take_row an_Reader_take_row : Option Addr} {sl_Reader_take_row : Array (Option Value)} {oc_Reader_take_row kV_Reader_take_row dc_Reader_take_row pm_Reader_take_row cd_Reader_take_row ct_Reader_take_row : Value}
    {a_answers : Addr} {od_answers an_answers : Option Addr} {sl_answers : Array (Option Value)} {oc_answers kV_answers dc_answers pm_answers cd_answers ct_answers : Value}
    {a_answer_call : Addr} {od_answer_call an_answer_call : Option Addr} {sl_answer_call : Array (Option Value)} {oc_answer_call kV_answer_call dc_answer_call pm_answer_call cd_answer_call ct_answer_call : Value}
    (n_enumerate : PySem.W.nsIn K mainGlobals "enumerate" = some none)
    (n_len : PySem.W.nsIn K mainGlobals "len" = some none)
    (n_list : PySem.W.nsIn K mainGlobals "list" = some none)
    (n_range : PySem.W.nsIn K mainGlobals "range" = some none)
    (g_GOES_ON : PySem.W.nsIn K mainGlobals "GOES_ON" = some (some (.int (0) tk_GOES_ON)))
    (g_UNKNOWN : PySem.W.nsIn K mainGlobals "UNKNOWN" = some (some (.int (1) tk_UNKNOWN)))
    (g_NO_KEY : PySem.W.nsIn K mainGlobals "NO_KEY" = some (some (.int (2) tk_NO_KEY)))
    (g_WRONG_PLACES : PySem.W.nsIn K mainGlobals "WRONG_PLACES" = some (some (.int (3) tk_WRONG_PLACES)))
    (g_ENDED : PySem.W.nsIn K mainGlobals "ENDED" = some (some (.int (4) tk_ENDED)))
    (g_MEMORY_SIZE : PySem.W.nsIn K mainGlobals "MEMORY_SIZE" = some (some (.int (4096) tk_MEMORY_SIZE)))
    (g_BYTE_COUNT : PySem.W.nsIn K mainGlobals "BYTE_COUNT" = some (some (.int (256) tk_BYTE_COUNT)))
    (g_WORD_COUNT : PySem.W.nsIn K mainGlobals "WORD_COUNT" = some (some (.int (65536) tk_WORD_COUNT)))
    (g_REGISTER_COUNT : PySem.W.nsIn K mainGlobals "REGISTER_COUNT" = some (some (.int (16) tk_REGISTER_COUNT)))
    (g_VF : PySem.W.nsIn K mainGlobals "VF" = some (some (.int (15) tk_VF)))
    (g_KEY_COUNT : PySem.W.nsIn K mainGlobals "KEY_COUNT" = some (some (.int (16) tk_KEY_COUNT)))
    (g_ASIDE_COUNT : PySem.W.nsIn K mainGlobals "ASIDE_COUNT" = some (some (.int (8) tk_ASIDE_COUNT)))
    (g_PLACE_COUNT : PySem.W.nsIn K mainGlobals "PLACE_COUNT" = some (some (.int (16) tk_PLACE_COUNT)))
    (g_FIRST_PC : PySem.W.nsIn K mainGlobals "FIRST_PC" = some (some (.int (512) tk_FIRST_PC)))
    (g_SMALL_HEIGHT : PySem.W.nsIn K mainGlobals "SMALL_HEIGHT" = some (some (.int (32) tk_SMALL_HEIGHT)))
    (g_LARGE_HEIGHT : PySem.W.nsIn K mainGlobals "LARGE_HEIGHT" = some (some (.int (64) tk_LARGE_HEIGHT)))
    (g_DIGITS : PySem.W.nsIn K mainGlobals "DIGITS" = some (some (.ref k_DIGITS)))
    (t_DIGITS : K.lookup k_DIGITS = some ⟨.type "tuple", od_DIGITS, .seq its_DIGITS n_DIGITS, sl_DIGITS⟩)
    (v_DIGITS : its_DIGITS.toList.map absV = (List.map V.int [240, 144, 144, 144, 240, 32, 96, 32, 32, 112, 240, 16, 240, 128, 240, 240, 16, 240, 16, 240, 144, 144, 240, 16, 16, 240, 128, 240, 16, 240, 240, 128, 240, 144, 240, 240, 16, 32, 64, 64, 240, 144, 240, 144, 240, 240, 144, 240, 16, 240, 240, 144, 240, 144, 144, 224, 144, 224, 144, 224, 240, 128, 128, 128, 240, 224, 144, 144, 144, 224, 240, 128, 240, 128, 240, 240, 128, 240, 128, 128]).map some)
    (g_STATE_COUNT : PySem.W.nsIn K mainGlobals "STATE_COUNT" = some (some (.int (4294967296) tk_STATE_COUNT)))
    (g_SMALL_WIDTH : PySem.W.nsIn K mainGlobals "SMALL_WIDTH" = some (some (.int (64) tk_SMALL_WIDTH)))
    (g_LARGE_WIDTH : PySem.W.nsIn K mainGlobals "LARGE_WIDTH" = some (some (.int (128) tk_LARGE_WIDTH)))
    (g_SCREEN_BYTES : PySem.W.nsIn K mainGlobals "SCREEN_BYTES" = some (some (.int (1024) tk_SCREEN_BYTES)))
    (g_COLUMNS_MOVED : PySem.W.nsIn K mainGlobals "COLUMNS_MOVED" = some (some (.int (4) tk_COLUMNS_MOVED)))
    (g_DIGIT_BYTES : PySem.W.nsIn K mainGlobals "DIGIT_BYTES" = some (some (.int (5) tk_DIGIT_BYTES)))
    (g_LARGE_DIGITS_AT : PySem.W.nsIn K mainGlobals "LARGE_DIGITS_AT" = some (some (.int (80) tk_LARGE_DIGITS_AT)))
    (g_LARGE_DIGIT_BYTES : PySem.W.nsIn K mainGlobals "LARGE_DIGIT_BYTES" = some (some (.int (10) tk_LARGE_DIGIT_BYTES)))
    (g_DONE : PySem.W.nsIn K mainGlobals "DONE" = some (some (.int (0) tk_DONE)))
    (g_REFUSED : PySem.W.nsIn K mainGlobals "REFUSED" = some (some (.int (-1) tk_REFUSED)))
    (g_LONGEST_RUN : PySem.W.nsIn K mainGlobals "LONGEST_RUN" = some (some (.int (1000000) tk_LONGEST_RUN)))
    (g_I_REGISTER : PySem.W.nsIn K mainGlobals "I_REGISTER" = some (some (.int (16) tk_I_REGISTER)))
    (g_PC_REGISTER : PySem.W.nsIn K mainGlobals "PC_REGISTER" = some (some (.int (17) tk_PC_REGISTER)))
    (g_WAIT_TIMER : PySem.W.nsIn K mainGlobals "WAIT_TIMER" = some (some (.int (18) tk_WAIT_TIMER)))
    (g_SOUND_TIMER : PySem.W.nsIn K mainGlobals "SOUND_TIMER" = some (some (.int (19) tk_SOUND_TIMER)))
    (g_PLACES_THERE : PySem.W.nsIn K mainGlobals "PLACES_THERE" = some (some (.int (20) tk_PLACES_THERE)))
    (g_CLEAR : PySem.W.nsIn K mainGlobals "CLEAR" = some (some (.int (1) tk_CLEAR)))
    (g_LOAD : PySem.W.nsIn K mainGlobals "LOAD" = some (some (.int (2) tk_LOAD)))
    (g_LOOK : PySem.W.nsIn K mainGlobals "LOOK" = some (some (.int (3) tk_LOOK)))
    (g_KEY : PySem.W.nsIn K mainGlobals "KEY" = some (some (.int (4) tk_KEY)))
    (g_TICK : PySem.W.nsIn K mainGlobals "TICK" = some (some (.int (5) tk_TICK)))
    (g_RUN : PySem.W.nsIn K mainGlobals "RUN" = some (some (.int (6) tk_RUN)))
    (g_WHY : PySem.W.nsIn K mainGlobals "WHY" = some (some (.int (7) tk_WHY)))
    (g_GET : PySem.W.nsIn K mainGlobals "GET" = some (some (.int (8) tk_GET)))
    (g_SET : PySem.W.nsIn K mainGlobals "SET" = some (some (.int (9) tk_SET)))
    (g_SCREEN : PySem.W.nsIn K mainGlobals "SCREEN" = some (some (.int (10) tk_SCREEN)))
    (g_CALCULATIONS : PySem.W.nsIn K mainGlobals "CALCULATIONS" = some (some (.ref k_CALCULATIONS)))
    (g_TRANSFERS : PySem.W.nsIn K mainGlobals "TRANSFERS" = some (some (.ref k_TRANSFERS)))
    (g_BY_FIRST_DIGIT : PySem.W.nsIn K mainGlobals "BY_FIRST_DIGIT" = some (some (.ref k_BY_FIRST_DIGIT)))
    (g_Machine : PySem.W.nsIn K mainGlobals "Machine" = some (some (.ref c_Machine)))
    (pg_Machine : PySem.W.plainGet K c_Machine Str.empty = true)
    (hd_Machine : PySem.W.hasDictIn K c_Machine = true)
    (po_Machine : PySem.W.plainOver K c_Machine = true)
    (sa_Machine : PySem.W.findIn K (.ref c_Machine) "__setattr__" = some (some (.builtin "object.__setattr__")))
    (mk_Machine : PySem.W.makesIn K c_Machine = true)
    (kc_Machine : PySem.W.keepIn K (.ref c_Machine) = true)
    (x_Machine_aside : PySem.W.findIn K (.ref c_Machine) "aside" = some none)
    (x_Machine_chance : PySem.W.findIn K (.ref c_Machine) "chance" = some none)
    (x_Machine_has_more : PySem.W.findIn K (.ref c_Machine) "has_more" = some none)
    (x_Machine_i : PySem.W.findIn K (.ref c_Machine) "i" = some none)
    (x_Machine_large : PySem.W.findIn K (.ref c_Machine) "large" = some none)
    (x_Machine_memory : PySem.W.findIn K (.ref c_Machine) "memory" = some none)
    (x_Machine_numbers : PySem.W.findIn K (.ref c_Machine) "numbers" = some none)
    (x_Machine_pc : PySem.W.findIn K (.ref c_Machine) "pc" = some none)
    (x_Machine_place : PySem.W.findIn K (.ref c_Machine) "place" = some none)
    (x_Machine_places : PySem.W.findIn K (.ref c_Machine) "places" = some none)
    (x_Machine_pressed : PySem.W.findIn K (.ref c_Machine) "pressed" = some none)
    (x_Machine_registers : PySem.W.findIn K (.ref c_Machine) "registers" = some none)
    (x_Machine_rows : PySem.W.findIn K (.ref c_Machine) "rows" = some none)
    (x_Machine_sound : PySem.W.findIn K (.ref c_Machine) "sound" = some none)
    (x_Machine_stopped_by : PySem.W.findIn K (.ref c_Machine) "stopped_by" = some none)
    (x_Machine_take : PySem.W.findIn K (.ref c_Machine) "take" = some none)
    (x_Machine_take_row : PySem.W.findIn K (.ref c_Machine) "take_row" = some none)
    (x_Machine_wait : PySem.W.findIn K (.ref c_Machine) "wait" = some none)
    (g_Reader : PySem.W.nsIn K mainGlobals "Reader" = some (some (.ref c_Reader)))
    (pg_Reader : PySem.W.plainGet K c_Reader Str.empty = true)
    (hd_Reader : PySem.W.hasDictIn K c_Reader = true)
    (po_Reader : PySem.W.plainOver K c_Reader = true)
    (sa_Reader : PySem.W.findIn K (.ref c_Reader) "__setattr__" = some (some (.builtin "object.__setattr__")))
    (mk_Reader : PySem.W.makesIn K c_Reader = true)
    (kc_Reader : PySem.W.keepIn K (.ref c_Reader) = true)
    (x_Reader_aside : PySem.W.findIn K (.ref c_Reader) "aside" = some none)
    (x_Reader_begin : PySem.W.findIn K (.ref c_Reader) "begin" = some none)
    (x_Reader_chance : PySem.W.findIn K (.ref c_Reader) "chance" = some none)
    (x_Reader_i : PySem.W.findIn K (.ref c_Reader) "i" = some none)
    (x_Reader_large : PySem.W.findIn K (.ref c_Reader) "large" = some none)
    (x_Reader_memory : PySem.W.findIn K (.ref c_Reader) "memory" = some none)
    (x_Reader_numbers : PySem.W.findIn K (.ref c_Reader) "numbers" = some none)
    (x_Reader_pc : PySem.W.findIn K (.ref c_Reader) "pc" = some none)
    (x_Reader_place : PySem.W.findIn K (.ref c_Reader) "place" = some none)
    (x_Reader_places : PySem.W.findIn K (.ref c_Reader) "places" = some none)
    (x_Reader_pressed : PySem.W.findIn K (.ref c_Reader) "pressed" = some none)
    (x_Reader_registers : PySem.W.findIn K (.ref c_Reader) "registers" = some none)
    (x_Reader_rows : PySem.W.findIn K (.ref c_Reader) "rows" = some none)
    (x_Reader_sound : PySem.W.findIn K (.ref c_Reader) "sound" = some none)
    (x_Reader_stopped_by : PySem.W.findIn K (.ref c_Reader) "stopped_by" = some none)
    (x_Reader_wait : PySem.W.findIn K (.ref c_Reader) "wait" = some none)
    (m_Machine___init__ : PySem.W.findIn K (.ref c_Machine) "__init__" = some (some (.ref a_Machine___init__)))
    (i_Machine___init__ : PySem.W.isFn K (.ref a_Machine___init__) = true)
    (l_Machine___init__ : K.lookup a_Machine___init__ = some ⟨oc_Machine___init__, od_Machine___init__, .func (PySem.W.fnOf "__init__" "Machine.__init__" (defArgs s_Machine___init__) (defBody s_Machine___init__) (defScope s_Machine___init__) .none kV_Machine___init__ dc_Machine___init__ pm_Machine___init__ an_Machine___init__ cd_Machine___init__ ct_Machine___init__), sl_Machine___init__⟩)
    (e_Machine___init__ : PySem.W.codeIn K cd_Machine___init__ "Machine.__init__" = true)
    (k_Machine___init__ : PySem.W.keepIn K (.ref a_Machine___init__) = true)
    (m_Machine_begin : PySem.W.findIn K (.ref c_Machine) "begin" = some (some (.ref a_Machine_begin)))
    (i_Machine_begin : PySem.W.isFn K (.ref a_Machine_begin) = true)
    (l_Machine_begin : K.lookup a_Machine_begin = some ⟨oc_Machine_begin, od_Machine_begin, .func (PySem.W.fnOf "begin" "Machine.begin" (defArgs s_Machine_begin) (defBody s_Machine_begin) (defScope s_Machine_begin) .none kV_Machine_begin dc_Machine_begin pm_Machine_begin an_Machine_begin cd_Machine_begin ct_Machine_begin), sl_Machine_begin⟩)
    (e_Machine_begin : PySem.W.codeIn K cd_Machine_begin "Machine.begin" = true)
    (k_Machine_begin : PySem.W.keepIn K (.ref a_Machine_begin) = true)
    (g_put_with_vf : PySem.W.nsIn K mainGlobals "put_with_vf" = some (some (.ref a_put_with_vf)))
    (l_put_with_vf : K.lookup a_put_with_vf = some ⟨oc_put_with_vf, od_put_with_vf, .func (PySem.W.fnOf "put_with_vf" "put_with_vf" (defArgs s_put_with_vf) (defBody s_put_with_vf) (defScope s_put_with_vf) .none kV_put_with_vf dc_put_with_vf pm_put_with_vf an_put_with_vf cd_put_with_vf ct_put_with_vf), sl_put_with_vf⟩)
    (e_put_with_vf : PySem.W.codeIn K cd_put_with_vf "put_with_vf" = true)
    (k_put_with_vf : PySem.W.keepIn K (.ref a_put_with_vf) = true)
    (g_put_y : PySem.W.nsIn K mainGlobals "put_y" = some (some (.ref a_put_y)))
    (l_put_y : K.lookup a_put_y = some ⟨oc_put_y, od_put_y, .func (PySem.W.fnOf "put_y" "put_y" (defArgs s_put_y) (defBody s_put_y) (defScope s_put_y) .none kV_put_y dc_put_y pm_put_y an_put_y cd_put_y ct_put_y), sl_put_y⟩)
    (e_put_y : PySem.W.codeIn K cd_put_y "put_y" = true)
    (k_put_y : PySem.W.keepIn K (.ref a_put_y) = true)
    (g_put_or : PySem.W.nsIn K mainGlobals "put_or" = some (some (.ref a_put_or)))
    (l_put_or : K.lookup a_put_or = some ⟨oc_put_or, od_put_or, .func (PySem.W.fnOf "put_or" "put_or" (defArgs s_put_or) (defBody s_put_or) (defScope s_put_or) .none kV_put_or dc_put_or pm_put_or an_put_or cd_put_or ct_put_or), sl_put_or⟩)
    (e_put_or : PySem.W.codeIn K cd_put_or "put_or" = true)
    (k_put_or : PySem.W.keepIn K (.ref a_put_or) = true)
    (g_put_and : PySem.W.nsIn K mainGlobals "put_and" = some (some (.ref a_put_and)))
    (l_put_and : K.lookup a_put_and = some ⟨oc_put_and, od_put_and, .func (PySem.W.fnOf "put_and" "put_and" (defArgs s_put_and) (defBody s_put_and) (defScope s_put_and) .none kV_put_and dc_put_and pm_put_and an_put_and cd_put_and ct_put_and), sl_put_and⟩)
    (e_put_and : PySem.W.codeIn K cd_put_and "put_and" = true)
    (k_put_and : PySem.W.keepIn K (.ref a_put_and) = true)
    (g_put_exclusive_or : PySem.W.nsIn K mainGlobals "put_exclusive_or" = some (some (.ref a_put_exclusive_or)))
    (l_put_exclusive_or : K.lookup a_put_exclusive_or = some ⟨oc_put_exclusive_or, od_put_exclusive_or, .func (PySem.W.fnOf "put_exclusive_or" "put_exclusive_or" (defArgs s_put_exclusive_or) (defBody s_put_exclusive_or) (defScope s_put_exclusive_or) .none kV_put_exclusive_or dc_put_exclusive_or pm_put_exclusive_or an_put_exclusive_or cd_put_exclusive_or ct_put_exclusive_or), sl_put_exclusive_or⟩)
    (e_put_exclusive_or : PySem.W.codeIn K cd_put_exclusive_or "put_exclusive_or" = true)
    (k_put_exclusive_or : PySem.W.keepIn K (.ref a_put_exclusive_or) = true)
    (g_put_sum : PySem.W.nsIn K mainGlobals "put_sum" = some (some (.ref a_put_sum)))
    (l_put_sum : K.lookup a_put_sum = some ⟨oc_put_sum, od_put_sum, .func (PySem.W.fnOf "put_sum" "put_sum" (defArgs s_put_sum) (defBody s_put_sum) (defScope s_put_sum) .none kV_put_sum dc_put_sum pm_put_sum an_put_sum cd_put_sum ct_put_sum), sl_put_sum⟩)
    (e_put_sum : PySem.W.codeIn K cd_put_sum "put_sum" = true)
    (k_put_sum : PySem.W.keepIn K (.ref a_put_sum) = true)
    (g_put_x_less_y : PySem.W.nsIn K mainGlobals "put_x_less_y" = some (some (.ref a_put_x_less_y)))
    (l_put_x_less_y : K.lookup a_put_x_less_y = some ⟨oc_put_x_less_y, od_put_x_less_y, .func (PySem.W.fnOf "put_x_less_y" "put_x_less_y" (defArgs s_put_x_less_y) (defBody s_put_x_less_y) (defScope s_put_x_less_y) .none kV_put_x_less_y dc_put_x_less_y pm_put_x_less_y an_put_x_less_y cd_put_x_less_y ct_put_x_less_y), sl_put_x_less_y⟩)
    (e_put_x_less_y : PySem.W.codeIn K cd_put_x_less_y "put_x_less_y" = true)
    (k_put_x_less_y : PySem.W.keepIn K (.ref a_put_x_less_y) = true)
    (g_put_y_less_x : PySem.W.nsIn K mainGlobals "put_y_less_x" = some (some (.ref a_put_y_less_x)))
    (l_put_y_less_x : K.lookup a_put_y_less_x = some ⟨oc_put_y_less_x, od_put_y_less_x, .func (PySem.W.fnOf "put_y_less_x" "put_y_less_x" (defArgs s_put_y_less_x) (defBody s_put_y_less_x) (defScope s_put_y_less_x) .none kV_put_y_less_x dc_put_y_less_x pm_put_y_less_x an_put_y_less_x cd_put_y_less_x ct_put_y_less_x), sl_put_y_less_x⟩)
    (e_put_y_less_x : PySem.W.codeIn K cd_put_y_less_x "put_y_less_x" = true)
    (k_put_y_less_x : PySem.W.keepIn K (.ref a_put_y_less_x) = true)
    (g_put_half : PySem.W.nsIn K mainGlobals "put_half" = some (some (.ref a_put_half)))
    (l_put_half : K.lookup a_put_half = some ⟨oc_put_half, od_put_half, .func (PySem.W.fnOf "put_half" "put_half" (defArgs s_put_half) (defBody s_put_half) (defScope s_put_half) .none kV_put_half dc_put_half pm_put_half an_put_half cd_put_half ct_put_half), sl_put_half⟩)
    (e_put_half : PySem.W.codeIn K cd_put_half "put_half" = true)
    (k_put_half : PySem.W.keepIn K (.ref a_put_half) = true)
    (g_put_double : PySem.W.nsIn K mainGlobals "put_double" = some (some (.ref a_put_double)))
    (l_put_double : K.lookup a_put_double = some ⟨oc_put_double, od_put_double, .func (PySem.W.fnOf "put_double" "put_double" (defArgs s_put_double) (defBody s_put_double) (defScope s_put_double) .none kV_put_double dc_put_double pm_put_double an_put_double cd_put_double ct_put_double), sl_put_double⟩)
    (e_put_double : PySem.W.codeIn K cd_put_double "put_double" = true)
    (k_put_double : PySem.W.keepIn K (.ref a_put_double) = true)
    (g_calculate : PySem.W.nsIn K mainGlobals "calculate" = some (some (.ref a_calculate)))
    (l_calculate : K.lookup a_calculate = some ⟨oc_calculate, od_calculate, .func (PySem.W.fnOf "calculate" "calculate" (defArgs s_calculate) (defBody s_calculate) (defScope s_calculate) .none kV_calculate dc_calculate pm_calculate an_calculate cd_calculate ct_calculate), sl_calculate⟩)
    (e_calculate : PySem.W.codeIn K cd_calculate "calculate" = true)
    (k_calculate : PySem.W.keepIn K (.ref a_calculate) = true)
    (g_next_chance : PySem.W.nsIn K mainGlobals "next_chance" = some (some (.ref a_next_chance)))
    (l_next_chance : K.lookup a_next_chance = some ⟨oc_next_chance, od_next_chance, .func (PySem.W.fnOf "next_chance" "next_chance" (defArgs s_next_chance) (defBody s_next_chance) (defScope s_next_chance) .none kV_next_chance dc_next_chance pm_next_chance an_next_chance cd_next_chance ct_next_chance), sl_next_chance⟩)
    (e_next_chance : PySem.W.codeIn K cd_next_chance "next_chance" = true)
    (k_next_chance : PySem.W.keepIn K (.ref a_next_chance) = true)
    (g_screen_width : PySem.W.nsIn K mainGlobals "screen_width" = some (some (.ref a_screen_width)))
    (l_screen_width : K.lookup a_screen_width = some ⟨oc_screen_width, od_screen_width, .func (PySem.W.fnOf "screen_width" "screen_width" (defArgs s_screen_width) (defBody s_screen_width) (defScope s_screen_width) .none kV_screen_width dc_screen_width pm_screen_width an_screen_width cd_screen_width ct_screen_width), sl_screen_width⟩)
    (e_screen_width : PySem.W.codeIn K cd_screen_width "screen_width" = true)
    (k_screen_width : PySem.W.keepIn K (.ref a_screen_width) = true)
    (g_darken : PySem.W.nsIn K mainGlobals "darken" = some (some (.ref a_darken)))
    (l_darken : K.lookup a_darken = some ⟨oc_darken, od_darken, .func (PySem.W.fnOf "darken" "darken" (defArgs s_darken) (defBody s_darken) (defScope s_darken) .none kV_darken dc_darken pm_darken an_darken cd_darken ct_darken), sl_darken⟩)
    (e_darken : PySem.W.codeIn K cd_darken "darken" = true)
    (k_darken : PySem.W.keepIn K (.ref a_darken) = true)
    (g_make_small : PySem.W.nsIn K mainGlobals "make_small" = some (some (.ref a_make_small)))
    (l_make_small : K.lookup a_make_small = some ⟨oc_make_small, od_make_small, .func (PySem.W.fnOf "make_small" "make_small" (defArgs s_make_small) (defBody s_make_small) (defScope s_make_small) .none kV_make_small dc_make_small pm_make_small an_make_small cd_make_small ct_make_small), sl_make_small⟩)
    (e_make_small : PySem.W.codeIn K cd_make_small "make_small" = true)
    (k_make_small : PySem.W.keepIn K (.ref a_make_small) = true)
    (g_make_large : PySem.W.nsIn K mainGlobals "make_large" = some (some (.ref a_make_large)))
    (l_make_large : K.lookup a_make_large = some ⟨oc_make_large, od_make_large, .func (PySem.W.fnOf "make_large" "make_large" (defArgs s_make_large) (defBody s_make_large) (defScope s_make_large) .none kV_make_large dc_make_large pm_make_large an_make_large cd_make_large ct_make_large), sl_make_large⟩)
    (e_make_large : PySem.W.codeIn K cd_make_large "make_large" = true)
    (k_make_large : PySem.W.keepIn K (.ref a_make_large) = true)
    (g_move_down : PySem.W.nsIn K mainGlobals "move_down" = some (some (.ref a_move_down)))
    (l_move_down : K.lookup a_move_down = some ⟨oc_move_down, od_move_down, .func (PySem.W.fnOf "move_down" "move_down" (defArgs s_move_down) (defBody s_move_down) (defScope s_move_down) .none kV_move_down dc_move_down pm_move_down an_move_down cd_move_down ct_move_down), sl_move_down⟩)
    (e_move_down : PySem.W.codeIn K cd_move_down "move_down" = true)
    (k_move_down : PySem.W.keepIn K (.ref a_move_down) = true)
    (g_move_right : PySem.W.nsIn K mainGlobals "move_right" = some (some (.ref a_move_right)))
    (l_move_right : K.lookup a_move_right = some ⟨oc_move_right, od_move_right, .func (PySem.W.fnOf "move_right" "move_right" (defArgs s_move_right) (defBody s_move_right) (defScope s_move_right) .none kV_move_right dc_move_right pm_move_right an_move_right cd_move_right ct_move_right), sl_move_right⟩)
    (e_move_right : PySem.W.codeIn K cd_move_right "move_right" = true)
    (k_move_right : PySem.W.keepIn K (.ref a_move_right) = true)
    (g_move_left : PySem.W.nsIn K mainGlobals "move_left" = some (some (.ref a_move_left)))
    (l_move_left : K.lookup a_move_left = some ⟨oc_move_left, od_move_left, .func (PySem.W.fnOf "move_left" "move_left" (defArgs s_move_left) (defBody s_move_left) (defScope s_move_left) .none kV_move_left dc_move_left pm_move_left an_move_left cd_move_left ct_move_left), sl_move_left⟩)
    (e_move_left : PySem.W.codeIn K cd_move_left "move_left" = true)
    (k_move_left : PySem.W.keepIn K (.ref a_move_left) = true)
    (g_lay_shape : PySem.W.nsIn K mainGlobals "lay_shape" = some (some (.ref a_lay_shape)))
    (l_lay_shape : K.lookup a_lay_shape = some ⟨oc_lay_shape, od_lay_shape, .func (PySem.W.fnOf "lay_shape" "lay_shape" (defArgs s_lay_shape) (defBody s_lay_shape) (defScope s_lay_shape) .none kV_lay_shape dc_lay_shape pm_lay_shape an_lay_shape cd_lay_shape ct_lay_shape), sl_lay_shape⟩)
    (e_lay_shape : PySem.W.codeIn K cd_lay_shape "lay_shape" = true)
    (k_lay_shape : PySem.W.keepIn K (.ref a_lay_shape) = true)
    (g_fit_points : PySem.W.nsIn K mainGlobals "fit_points" = some (some (.ref a_fit_points)))
    (l_fit_points : K.lookup a_fit_points = some ⟨oc_fit_points, od_fit_points, .func (PySem.W.fnOf "fit_points" "fit_points" (defArgs s_fit_points) (defBody s_fit_points) (defScope s_fit_points) .none kV_fit_points dc_fit_points pm_fit_points an_fit_points cd_fit_points ct_fit_points), sl_fit_points⟩)
    (e_fit_points : PySem.W.codeIn K cd_fit_points "fit_points" = true)
    (k_fit_points : PySem.W.keepIn K (.ref a_fit_points) = true)
    (g_screen_bytes : PySem.W.nsIn K mainGlobals "screen_bytes" = some (some (.ref a_screen_bytes)))
    (l_screen_bytes : K.lookup a_screen_bytes = some ⟨oc_screen_bytes, od_screen_bytes, .func (PySem.W.fnOf "screen_bytes" "screen_bytes" (defArgs s_screen_bytes) (defBody s_screen_bytes) (defScope s_screen_bytes) .none kV_screen_bytes dc_screen_bytes pm_screen_bytes an_screen_bytes cd_screen_bytes ct_screen_bytes), sl_screen_bytes⟩)
    (e_screen_bytes : PySem.W.codeIn K cd_screen_bytes "screen_bytes" = true)
    (k_screen_bytes : PySem.W.keepIn K (.ref a_screen_bytes) = true)
    (g_take_wait : PySem.W.nsIn K mainGlobals "take_wait" = some (some (.ref a_take_wait)))
    (l_take_wait : K.lookup a_take_wait = some ⟨oc_take_wait, od_take_wait, .func (PySem.W.fnOf "take_wait" "take_wait" (defArgs s_take_wait) (defBody s_take_wait) (defScope s_take_wait) .none kV_take_wait dc_take_wait pm_take_wait an_take_wait cd_take_wait ct_take_wait), sl_take_wait⟩)
    (e_take_wait : PySem.W.codeIn K cd_take_wait "take_wait" = true)
    (k_take_wait : PySem.W.keepIn K (.ref a_take_wait) = true)
    (g_take_key : PySem.W.nsIn K mainGlobals "take_key" = some (some (.ref a_take_key)))
    (l_take_key : K.lookup a_take_key = some ⟨oc_take_key, od_take_key, .func (PySem.W.fnOf "take_key" "take_key" (defArgs s_take_key) (defBody s_take_key) (defScope s_take_key) .none kV_take_key dc_take_key pm_take_key an_take_key cd_take_key ct_take_key), sl_take_key⟩)
    (e_take_key : PySem.W.codeIn K cd_take_key "take_key" = true)
    (k_take_key : PySem.W.keepIn K (.ref a_take_key) = true)
    (g_set_wait : PySem.W.nsIn K mainGlobals "set_wait" = some (some (.ref a_set_wait)))
    (l_set_wait : K.lookup a_set_wait = some ⟨oc_set_wait, od_set_wait, .func (PySem.W.fnOf "set_wait" "set_wait" (defArgs s_set_wait) (defBody s_set_wait) (defScope s_set_wait) .none kV_set_wait dc_set_wait pm_set_wait an_set_wait cd_set_wait ct_set_wait), sl_set_wait⟩)
    (e_set_wait : PySem.W.codeIn K cd_set_wait "set_wait" = true)
    (k_set_wait : PySem.W.keepIn K (.ref a_set_wait) = true)
    (g_set_sound : PySem.W.nsIn K mainGlobals "set_sound" = some (some (.ref a_set_sound)))
    (l_set_sound : K.lookup a_set_sound = some ⟨oc_set_sound, od_set_sound, .func (PySem.W.fnOf "set_sound" "set_sound" (defArgs s_set_sound) (defBody s_set_sound) (defScope s_set_sound) .none kV_set_sound dc_set_sound pm_set_sound an_set_sound cd_set_sound ct_set_sound), sl_set_sound⟩)
    (e_set_sound : PySem.W.codeIn K cd_set_sound "set_sound" = true)
    (k_set_sound : PySem.W.keepIn K (.ref a_set_sound) = true)
    (g_move_i_on : PySem.W.nsIn K mainGlobals "move_i_on" = some (some (.ref a_move_i_on)))
    (l_move_i_on : K.lookup a_move_i_on = some ⟨oc_move_i_on, od_move_i_on, .func (PySem.W.fnOf "move_i_on" "move_i_on" (defArgs s_move_i_on) (defBody s_move_i_on) (defScope s_move_i_on) .none kV_move_i_on dc_move_i_on pm_move_i_on an_move_i_on cd_move_i_on ct_move_i_on), sl_move_i_on⟩)
    (e_move_i_on : PySem.W.codeIn K cd_move_i_on "move_i_on" = true)
    (k_move_i_on : PySem.W.keepIn K (.ref a_move_i_on) = true)
    (g_point_at_digit : PySem.W.nsIn K mainGlobals "point_at_digit" = some (some (.ref a_point_at_digit)))
    (l_point_at_digit : K.lookup a_point_at_digit = some ⟨oc_point_at_digit, od_point_at_digit, .func (PySem.W.fnOf "point_at_digit" "point_at_digit" (defArgs s_point_at_digit) (defBody s_point_at_digit) (defScope s_point_at_digit) .none kV_point_at_digit dc_point_at_digit pm_point_at_digit an_point_at_digit cd_point_at_digit ct_point_at_digit), sl_point_at_digit⟩)
    (e_point_at_digit : PySem.W.codeIn K cd_point_at_digit "point_at_digit" = true)
    (k_point_at_digit : PySem.W.keepIn K (.ref a_point_at_digit) = true)
    (g_point_at_large_digit : PySem.W.nsIn K mainGlobals "point_at_large_digit" = some (some (.ref a_point_at_large_digit)))
    (l_point_at_large_digit : K.lookup a_point_at_large_digit = some ⟨oc_point_at_large_digit, od_point_at_large_digit, .func (PySem.W.fnOf "point_at_large_digit" "point_at_large_digit" (defArgs s_point_at_large_digit) (defBody s_point_at_large_digit) (defScope s_point_at_large_digit) .none kV_point_at_large_digit dc_point_at_large_digit pm_point_at_large_digit an_point_at_large_digit cd_point_at_large_digit ct_point_at_large_digit), sl_point_at_large_digit⟩)
    (e_point_at_large_digit : PySem.W.codeIn K cd_point_at_large_digit "point_at_large_digit" = true)
    (k_point_at_large_digit : PySem.W.keepIn K (.ref a_point_at_large_digit) = true)
    (g_write_decimal : PySem.W.nsIn K mainGlobals "write_decimal" = some (some (.ref a_write_decimal)))
    (l_write_decimal : K.lookup a_write_decimal = some ⟨oc_write_decimal, od_write_decimal, .func (PySem.W.fnOf "write_decimal" "write_decimal" (defArgs s_write_decimal) (defBody s_write_decimal) (defScope s_write_decimal) .none kV_write_decimal dc_write_decimal pm_write_decimal an_write_decimal cd_write_decimal ct_write_decimal), sl_write_decimal⟩)
    (e_write_decimal : PySem.W.codeIn K cd_write_decimal "write_decimal" = true)
    (k_write_decimal : PySem.W.keepIn K (.ref a_write_decimal) = true)
    (g_write_registers : PySem.W.nsIn K mainGlobals "write_registers" = some (some (.ref a_write_registers)))
    (l_write_registers : K.lookup a_write_registers = some ⟨oc_write_registers, od_write_registers, .func (PySem.W.fnOf "write_registers" "write_registers" (defArgs s_write_registers) (defBody s_write_registers) (defScope s_write_registers) .none kV_write_registers dc_write_registers pm_write_registers an_write_registers cd_write_registers ct_write_registers), sl_write_registers⟩)
    (e_write_registers : PySem.W.codeIn K cd_write_registers "write_registers" = true)
    (k_write_registers : PySem.W.keepIn K (.ref a_write_registers) = true)
    (g_read_registers : PySem.W.nsIn K mainGlobals "read_registers" = some (some (.ref a_read_registers)))
    (l_read_registers : K.lookup a_read_registers = some ⟨oc_read_registers, od_read_registers, .func (PySem.W.fnOf "read_registers" "read_registers" (defArgs s_read_registers) (defBody s_read_registers) (defScope s_read_registers) .none kV_read_registers dc_read_registers pm_read_registers an_read_registers cd_read_registers ct_read_registers), sl_read_registers⟩)
    (e_read_registers : PySem.W.codeIn K cd_read_registers "read_registers" = true)
    (k_read_registers : PySem.W.keepIn K (.ref a_read_registers) = true)
    (g_keep_aside : PySem.W.nsIn K mainGlobals "keep_aside" = some (some (.ref a_keep_aside)))
    (l_keep_aside : K.lookup a_keep_aside = some ⟨oc_keep_aside, od_keep_aside, .func (PySem.W.fnOf "keep_aside" "keep_aside" (defArgs s_keep_aside) (defBody s_keep_aside) (defScope s_keep_aside) .none kV_keep_aside dc_keep_aside pm_keep_aside an_keep_aside cd_keep_aside ct_keep_aside), sl_keep_aside⟩)
    (e_keep_aside : PySem.W.codeIn K cd_keep_aside "keep_aside" = true)
    (k_keep_aside : PySem.W.keepIn K (.ref a_keep_aside) = true)
    (g_take_from_aside : PySem.W.nsIn K mainGlobals "take_from_aside" = some (some (.ref a_take_from_aside)))
    (l_take_from_aside : K.lookup a_take_from_aside = some ⟨oc_take_from_aside, od_take_from_aside, .func (PySem.W.fnOf "take_from_aside" "take_from_aside" (defArgs s_take_from_aside) (defBody s_take_from_aside) (defScope s_take_from_aside) .none kV_take_from_aside dc_take_from_aside pm_take_from_aside an_take_from_aside cd_take_from_aside ct_take_from_aside), sl_take_from_aside⟩)
    (e_take_from_aside : PySem.W.codeIn K cd_take_from_aside "take_from_aside" = true)
    (k_take_from_aside : PySem.W.keepIn K (.ref a_take_from_aside) = true)
    (g_transfer : PySem.W.nsIn K mainGlobals "transfer" = some (some (.ref a_transfer)))
    (l_transfer : K.lookup a_transfer = some ⟨oc_transfer, od_transfer, .func (PySem.W.fnOf "transfer" "transfer" (defArgs s_transfer) (defBody s_transfer) (defScope s_transfer) .none kV_transfer dc_transfer pm_transfer an_transfer cd_transfer ct_transfer), sl_transfer⟩)
    (e_transfer : PySem.W.codeIn K cd_transfer "transfer" = true)
    (k_transfer : PySem.W.keepIn K (.ref a_transfer) = true)
    (g_digit_x : PySem.W.nsIn K mainGlobals "digit_x" = some (some (.ref a_digit_x)))
    (l_digit_x : K.lookup a_digit_x = some ⟨oc_digit_x, od_digit_x, .func (PySem.W.fnOf "digit_x" "digit_x" (defArgs s_digit_x) (defBody s_digit_x) (defScope s_digit_x) .none kV_digit_x dc_digit_x pm_digit_x an_digit_x cd_digit_x ct_digit_x), sl_digit_x⟩)
    (e_digit_x : PySem.W.codeIn K cd_digit_x "digit_x" = true)
    (k_digit_x : PySem.W.keepIn K (.ref a_digit_x) = true)
    (g_digit_y : PySem.W.nsIn K mainGlobals "digit_y" = some (some (.ref a_digit_y)))
    (l_digit_y : K.lookup a_digit_y = some ⟨oc_digit_y, od_digit_y, .func (PySem.W.fnOf "digit_y" "digit_y" (defArgs s_digit_y) (defBody s_digit_y) (defScope s_digit_y) .none kV_digit_y dc_digit_y pm_digit_y an_digit_y cd_digit_y ct_digit_y), sl_digit_y⟩)
    (e_digit_y : PySem.W.codeIn K cd_digit_y "digit_y" = true)
    (k_digit_y : PySem.W.keepIn K (.ref a_digit_y) = true)
    (g_value_x : PySem.W.nsIn K mainGlobals "value_x" = some (some (.ref a_value_x)))
    (l_value_x : K.lookup a_value_x = some ⟨oc_value_x, od_value_x, .func (PySem.W.fnOf "value_x" "value_x" (defArgs s_value_x) (defBody s_value_x) (defScope s_value_x) .none kV_value_x dc_value_x pm_value_x an_value_x cd_value_x ct_value_x), sl_value_x⟩)
    (e_value_x : PySem.W.codeIn K cd_value_x "value_x" = true)
    (k_value_x : PySem.W.keepIn K (.ref a_value_x) = true)
    (g_value_y : PySem.W.nsIn K mainGlobals "value_y" = some (some (.ref a_value_y)))
    (l_value_y : K.lookup a_value_y = some ⟨oc_value_y, od_value_y, .func (PySem.W.fnOf "value_y" "value_y" (defArgs s_value_y) (defBody s_value_y) (defScope s_value_y) .none kV_value_y dc_value_y pm_value_y an_value_y cd_value_y ct_value_y), sl_value_y⟩)
    (e_value_y : PySem.W.codeIn K cd_value_y "value_y" = true)
    (k_value_y : PySem.W.keepIn K (.ref a_value_y) = true)
    (g_go_to : PySem.W.nsIn K mainGlobals "go_to" = some (some (.ref a_go_to)))
    (l_go_to : K.lookup a_go_to = some ⟨oc_go_to, od_go_to, .func (PySem.W.fnOf "go_to" "go_to" (defArgs s_go_to) (defBody s_go_to) (defScope s_go_to) .none kV_go_to dc_go_to pm_go_to an_go_to cd_go_to ct_go_to), sl_go_to⟩)
    (e_go_to : PySem.W.codeIn K cd_go_to "go_to" = true)
    (k_go_to : PySem.W.keepIn K (.ref a_go_to) = true)
    (g_pass_over_if : PySem.W.nsIn K mainGlobals "pass_over_if" = some (some (.ref a_pass_over_if)))
    (l_pass_over_if : K.lookup a_pass_over_if = some ⟨oc_pass_over_if, od_pass_over_if, .func (PySem.W.fnOf "pass_over_if" "pass_over_if" (defArgs s_pass_over_if) (defBody s_pass_over_if) (defScope s_pass_over_if) .none kV_pass_over_if dc_pass_over_if pm_pass_over_if an_pass_over_if cd_pass_over_if ct_pass_over_if), sl_pass_over_if⟩)
    (e_pass_over_if : PySem.W.codeIn K cd_pass_over_if "pass_over_if" = true)
    (k_pass_over_if : PySem.W.keepIn K (.ref a_pass_over_if) = true)
    (g_come_back : PySem.W.nsIn K mainGlobals "come_back" = some (some (.ref a_come_back)))
    (l_come_back : K.lookup a_come_back = some ⟨oc_come_back, od_come_back, .func (PySem.W.fnOf "come_back" "come_back" (defArgs s_come_back) (defBody s_come_back) (defScope s_come_back) .none kV_come_back dc_come_back pm_come_back an_come_back cd_come_back ct_come_back), sl_come_back⟩)
    (e_come_back : PySem.W.codeIn K cd_come_back "come_back" = true)
    (k_come_back : PySem.W.keepIn K (.ref a_come_back) = true)
    (g_change_screen : PySem.W.nsIn K mainGlobals "change_screen" = some (some (.ref a_change_screen)))
    (l_change_screen : K.lookup a_change_screen = some ⟨oc_change_screen, od_change_screen, .func (PySem.W.fnOf "change_screen" "change_screen" (defArgs s_change_screen) (defBody s_change_screen) (defScope s_change_screen) .none kV_change_screen dc_change_screen pm_change_screen an_change_screen cd_change_screen ct_change_screen), sl_change_screen⟩)
    (e_change_screen : PySem.W.codeIn K cd_change_screen "change_screen" = true)
    (k_change_screen : PySem.W.keepIn K (.ref a_change_screen) = true)
    (g_do_without_registers : PySem.W.nsIn K mainGlobals "do_without_registers" = some (some (.ref a_do_without_registers)))
    (l_do_without_registers : K.lookup a_do_without_registers = some ⟨oc_do_without_registers, od_do_without_registers, .func (PySem.W.fnOf "do_without_registers" "do_without_registers" (defArgs s_do_without_registers) (defBody s_do_without_registers) (defScope s_do_without_registers) .none kV_do_without_registers dc_do_without_registers pm_do_without_registers an_do_without_registers cd_do_without_registers ct_do_without_registers), sl_do_without_registers⟩)
    (e_do_without_registers : PySem.W.codeIn K cd_do_without_registers "do_without_registers" = true)
    (k_do_without_registers : PySem.W.keepIn K (.ref a_do_without_registers) = true)
    (g_jump : PySem.W.nsIn K mainGlobals "jump" = some (some (.ref a_jump)))
    (l_jump : K.lookup a_jump = some ⟨oc_jump, od_jump, .func (PySem.W.fnOf "jump" "jump" (defArgs s_jump) (defBody s_jump) (defScope s_jump) .none kV_jump dc_jump pm_jump an_jump cd_jump ct_jump), sl_jump⟩)
    (e_jump : PySem.W.codeIn K cd_jump "jump" = true)
    (k_jump : PySem.W.keepIn K (.ref a_jump) = true)
    (g_jump_and_come_back : PySem.W.nsIn K mainGlobals "jump_and_come_back" = some (some (.ref a_jump_and_come_back)))
    (l_jump_and_come_back : K.lookup a_jump_and_come_back = some ⟨oc_jump_and_come_back, od_jump_and_come_back, .func (PySem.W.fnOf "jump_and_come_back" "jump_and_come_back" (defArgs s_jump_and_come_back) (defBody s_jump_and_come_back) (defScope s_jump_and_come_back) .none kV_jump_and_come_back dc_jump_and_come_back pm_jump_and_come_back an_jump_and_come_back cd_jump_and_come_back ct_jump_and_come_back), sl_jump_and_come_back⟩)
    (e_jump_and_come_back : PySem.W.codeIn K cd_jump_and_come_back "jump_and_come_back" = true)
    (k_jump_and_come_back : PySem.W.keepIn K (.ref a_jump_and_come_back) = true)
    (g_pass_if_number : PySem.W.nsIn K mainGlobals "pass_if_number" = some (some (.ref a_pass_if_number)))
    (l_pass_if_number : K.lookup a_pass_if_number = some ⟨oc_pass_if_number, od_pass_if_number, .func (PySem.W.fnOf "pass_if_number" "pass_if_number" (defArgs s_pass_if_number) (defBody s_pass_if_number) (defScope s_pass_if_number) .none kV_pass_if_number dc_pass_if_number pm_pass_if_number an_pass_if_number cd_pass_if_number ct_pass_if_number), sl_pass_if_number⟩)
    (e_pass_if_number : PySem.W.codeIn K cd_pass_if_number "pass_if_number" = true)
    (k_pass_if_number : PySem.W.keepIn K (.ref a_pass_if_number) = true)
    (g_pass_if_not_number : PySem.W.nsIn K mainGlobals "pass_if_not_number" = some (some (.ref a_pass_if_not_number)))
    (l_pass_if_not_number : K.lookup a_pass_if_not_number = some ⟨oc_pass_if_not_number, od_pass_if_not_number, .func (PySem.W.fnOf "pass_if_not_number" "pass_if_not_number" (defArgs s_pass_if_not_number) (defBody s_pass_if_not_number) (defScope s_pass_if_not_number) .none kV_pass_if_not_number dc_pass_if_not_number pm_pass_if_not_number an_pass_if_not_number cd_pass_if_not_number ct_pass_if_not_number), sl_pass_if_not_number⟩)
    (e_pass_if_not_number : PySem.W.codeIn K cd_pass_if_not_number "pass_if_not_number" = true)
    (k_pass_if_not_number : PySem.W.keepIn K (.ref a_pass_if_not_number) = true)
    (g_pass_if_equal : PySem.W.nsIn K mainGlobals "pass_if_equal" = some (some (.ref a_pass_if_equal)))
    (l_pass_if_equal : K.lookup a_pass_if_equal = some ⟨oc_pass_if_equal, od_pass_if_equal, .func (PySem.W.fnOf "pass_if_equal" "pass_if_equal" (defArgs s_pass_if_equal) (defBody s_pass_if_equal) (defScope s_pass_if_equal) .none kV_pass_if_equal dc_pass_if_equal pm_pass_if_equal an_pass_if_equal cd_pass_if_equal ct_pass_if_equal), sl_pass_if_equal⟩)
    (e_pass_if_equal : PySem.W.codeIn K cd_pass_if_equal "pass_if_equal" = true)
    (k_pass_if_equal : PySem.W.keepIn K (.ref a_pass_if_equal) = true)
    (g_put_number : PySem.W.nsIn K mainGlobals "put_number" = some (some (.ref a_put_number)))
    (l_put_number : K.lookup a_put_number = some ⟨oc_put_number, od_put_number, .func (PySem.W.fnOf "put_number" "put_number" (defArgs s_put_number) (defBody s_put_number) (defScope s_put_number) .none kV_put_number dc_put_number pm_put_number an_put_number cd_put_number ct_put_number), sl_put_number⟩)
    (e_put_number : PySem.W.codeIn K cd_put_number "put_number" = true)
    (k_put_number : PySem.W.keepIn K (.ref a_put_number) = true)
    (g_add_number : PySem.W.nsIn K mainGlobals "add_number" = some (some (.ref a_add_number)))
    (l_add_number : K.lookup a_add_number = some ⟨oc_add_number, od_add_number, .func (PySem.W.fnOf "add_number" "add_number" (defArgs s_add_number) (defBody s_add_number) (defScope s_add_number) .none kV_add_number dc_add_number pm_add_number an_add_number cd_add_number ct_add_number), sl_add_number⟩)
    (e_add_number : PySem.W.codeIn K cd_add_number "add_number" = true)
    (k_add_number : PySem.W.keepIn K (.ref a_add_number) = true)
    (g_do_calculation : PySem.W.nsIn K mainGlobals "do_calculation" = some (some (.ref a_do_calculation)))
    (l_do_calculation : K.lookup a_do_calculation = some ⟨oc_do_calculation, od_do_calculation, .func (PySem.W.fnOf "do_calculation" "do_calculation" (defArgs s_do_calculation) (defBody s_do_calculation) (defScope s_do_calculation) .none kV_do_calculation dc_do_calculation pm_do_calculation an_do_calculation cd_do_calculation ct_do_calculation), sl_do_calculation⟩)
    (e_do_calculation : PySem.W.codeIn K cd_do_calculation "do_calculation" = true)
    (k_do_calculation : PySem.W.keepIn K (.ref a_do_calculation) = true)
    (g_pass_if_unequal : PySem.W.nsIn K mainGlobals "pass_if_unequal" = some (some (.ref a_pass_if_unequal)))
    (l_pass_if_unequal : K.lookup a_pass_if_unequal = some ⟨oc_pass_if_unequal, od_pass_if_unequal, .func (PySem.W.fnOf "pass_if_unequal" "pass_if_unequal" (defArgs s_pass_if_unequal) (defBody s_pass_if_unequal) (defScope s_pass_if_unequal) .none kV_pass_if_unequal dc_pass_if_unequal pm_pass_if_unequal an_pass_if_unequal cd_pass_if_unequal ct_pass_if_unequal), sl_pass_if_unequal⟩)
    (e_pass_if_unequal : PySem.W.codeIn K cd_pass_if_unequal "pass_if_unequal" = true)
    (k_pass_if_unequal : PySem.W.keepIn K (.ref a_pass_if_unequal) = true)
    (g_put_i : PySem.W.nsIn K mainGlobals "put_i" = some (some (.ref a_put_i)))
    (l_put_i : K.lookup a_put_i = some ⟨oc_put_i, od_put_i, .func (PySem.W.fnOf "put_i" "put_i" (defArgs s_put_i) (defBody s_put_i) (defScope s_put_i) .none kV_put_i dc_put_i pm_put_i an_put_i cd_put_i ct_put_i), sl_put_i⟩)
    (e_put_i : PySem.W.codeIn K cd_put_i "put_i" = true)
    (k_put_i : PySem.W.keepIn K (.ref a_put_i) = true)
    (g_jump_further : PySem.W.nsIn K mainGlobals "jump_further" = some (some (.ref a_jump_further)))
    (l_jump_further : K.lookup a_jump_further = some ⟨oc_jump_further, od_jump_further, .func (PySem.W.fnOf "jump_further" "jump_further" (defArgs s_jump_further) (defBody s_jump_further) (defScope s_jump_further) .none kV_jump_further dc_jump_further pm_jump_further an_jump_further cd_jump_further ct_jump_further), sl_jump_further⟩)
    (e_jump_further : PySem.W.codeIn K cd_jump_further "jump_further" = true)
    (k_jump_further : PySem.W.keepIn K (.ref a_jump_further) = true)
    (g_take_chance : PySem.W.nsIn K mainGlobals "take_chance" = some (some (.ref a_take_chance)))
    (l_take_chance : K.lookup a_take_chance = some ⟨oc_take_chance, od_take_chance, .func (PySem.W.fnOf "take_chance" "take_chance" (defArgs s_take_chance) (defBody s_take_chance) (defScope s_take_chance) .none kV_take_chance dc_take_chance pm_take_chance an_take_chance cd_take_chance ct_take_chance), sl_take_chance⟩)
    (e_take_chance : PySem.W.codeIn K cd_take_chance "take_chance" = true)
    (k_take_chance : PySem.W.keepIn K (.ref a_take_chance) = true)
    (g_draw : PySem.W.nsIn K mainGlobals "draw" = some (some (.ref a_draw)))
    (l_draw : K.lookup a_draw = some ⟨oc_draw, od_draw, .func (PySem.W.fnOf "draw" "draw" (defArgs s_draw) (defBody s_draw) (defScope s_draw) .none kV_draw dc_draw pm_draw an_draw cd_draw ct_draw), sl_draw⟩)
    (e_draw : PySem.W.codeIn K cd_draw "draw" = true)
    (k_draw : PySem.W.keepIn K (.ref a_draw) = true)
    (g_narrow_shape : PySem.W.nsIn K mainGlobals "narrow_shape" = some (some (.ref a_narrow_shape)))
    (l_narrow_shape : K.lookup a_narrow_shape = some ⟨oc_narrow_shape, od_narrow_shape, .func (PySem.W.fnOf "narrow_shape" "narrow_shape" (defArgs s_narrow_shape) (defBody s_narrow_shape) (defScope s_narrow_shape) .none kV_narrow_shape dc_narrow_shape pm_narrow_shape an_narrow_shape cd_narrow_shape ct_narrow_shape), sl_narrow_shape⟩)
    (e_narrow_shape : PySem.W.codeIn K cd_narrow_shape "narrow_shape" = true)
    (k_narrow_shape : PySem.W.keepIn K (.ref a_narrow_shape) = true)
    (g_wide_shape : PySem.W.nsIn K mainGlobals "wide_shape" = some (some (.ref a_wide_shape)))
    (l_wide_shape : K.lookup a_wide_shape = some ⟨oc_wide_shape, od_wide_shape, .func (PySem.W.fnOf "wide_shape" "wide_shape" (defArgs s_wide_shape) (defBody s_wide_shape) (defScope s_wide_shape) .none kV_wide_shape dc_wide_shape pm_wide_shape an_wide_shape cd_wide_shape ct_wide_shape), sl_wide_shape⟩)
    (e_wide_shape : PySem.W.codeIn K cd_wide_shape "wide_shape" = true)
    (k_wide_shape : PySem.W.keepIn K (.ref a_wide_shape) = true)
    (g_word_at : PySem.W.nsIn K mainGlobals "word_at" = some (some (.ref a_word_at)))
    (l_word_at : K.lookup a_word_at = some ⟨oc_word_at, od_word_at, .func (PySem.W.fnOf "word_at" "word_at" (defArgs s_word_at) (defBody s_word_at) (defScope s_word_at) .none kV_word_at dc_word_at pm_word_at an_word_at cd_word_at ct_word_at), sl_word_at⟩)
    (e_word_at : PySem.W.codeIn K cd_word_at "word_at" = true)
    (k_word_at : PySem.W.keepIn K (.ref a_word_at) = true)
    (g_pass_by_key : PySem.W.nsIn K mainGlobals "pass_by_key" = some (some (.ref a_pass_by_key)))
    (l_pass_by_key : K.lookup a_pass_by_key = some ⟨oc_pass_by_key, od_pass_by_key, .func (PySem.W.fnOf "pass_by_key" "pass_by_key" (defArgs s_pass_by_key) (defBody s_pass_by_key) (defScope s_pass_by_key) .none kV_pass_by_key dc_pass_by_key pm_pass_by_key an_pass_by_key cd_pass_by_key ct_pass_by_key), sl_pass_by_key⟩)
    (e_pass_by_key : PySem.W.codeIn K cd_pass_by_key "pass_by_key" = true)
    (k_pass_by_key : PySem.W.keepIn K (.ref a_pass_by_key) = true)
    (g_do_transfer : PySem.W.nsIn K mainGlobals "do_transfer" = some (some (.ref a_do_transfer)))
    (l_do_transfer : K.lookup a_do_transfer = some ⟨oc_do_transfer, od_do_transfer, .func (PySem.W.fnOf "do_transfer" "do_transfer" (defArgs s_do_transfer) (defBody s_do_transfer) (defScope s_do_transfer) .none kV_do_transfer dc_do_transfer pm_do_transfer an_do_transfer cd_do_transfer ct_do_transfer), sl_do_transfer⟩)
    (e_do_transfer : PySem.W.codeIn K cd_do_transfer "do_transfer" = true)
    (k_do_transfer : PySem.W.keepIn K (.ref a_do_transfer) = true)
    (g_do_instruction : PySem.W.nsIn K mainGlobals "do_instruction" = some (some (.ref a_do_instruction)))
    (l_do_instruction : K.lookup a_do_instruction = some ⟨oc_do_instruction, od_do_instruction, .func (PySem.W.fnOf "do_instruction" "do_instruction" (defArgs s_do_instruction) (defBody s_do_instruction) (defScope s_do_instruction) .none kV_do_instruction dc_do_instruction pm_do_instruction an_do_instruction cd_do_instruction ct_do_instruction), sl_do_instruction⟩)
    (e_do_instruction : PySem.W.codeIn K cd_do_instruction "do_instruction" = true)
    (k_do_instruction : PySem.W.keepIn K (.ref a_do_instruction) = true)
    (g_c8_clear : PySem.W.nsIn K mainGlobals "c8_clear" = some (some (.ref a_c8_clear)))
    (l_c8_clear : K.lookup a_c8_clear = some ⟨oc_c8_clear, od_c8_clear, .func (PySem.W.fnOf "c8_clear" "c8_clear" (defArgs s_c8_clear) (defBody s_c8_clear) (defScope s_c8_clear) .none kV_c8_clear dc_c8_clear pm_c8_clear an_c8_clear cd_c8_clear ct_c8_clear), sl_c8_clear⟩)
    (e_c8_clear : PySem.W.codeIn K cd_c8_clear "c8_clear" = true)
    (k_c8_clear : PySem.W.keepIn K (.ref a_c8_clear) = true)
    (g_c8_load : PySem.W.nsIn K mainGlobals "c8_load" = some (some (.ref a_c8_load)))
    (l_c8_load : K.lookup a_c8_load = some ⟨oc_c8_load, od_c8_load, .func (PySem.W.fnOf "c8_load" "c8_load" (defArgs s_c8_load) (defBody s_c8_load) (defScope s_c8_load) .none kV_c8_load dc_c8_load pm_c8_load an_c8_load cd_c8_load ct_c8_load), sl_c8_load⟩)
    (e_c8_load : PySem.W.codeIn K cd_c8_load "c8_load" = true)
    (k_c8_load : PySem.W.keepIn K (.ref a_c8_load) = true)
    (g_c8_look : PySem.W.nsIn K mainGlobals "c8_look" = some (some (.ref a_c8_look)))
    (l_c8_look : K.lookup a_c8_look = some ⟨oc_c8_look, od_c8_look, .func (PySem.W.fnOf "c8_look" "c8_look" (defArgs s_c8_look) (defBody s_c8_look) (defScope s_c8_look) .none kV_c8_look dc_c8_look pm_c8_look an_c8_look cd_c8_look ct_c8_look), sl_c8_look⟩)
    (e_c8_look : PySem.W.codeIn K cd_c8_look "c8_look" = true)
    (k_c8_look : PySem.W.keepIn K (.ref a_c8_look) = true)
    (g_is_in_memory : PySem.W.nsIn K mainGlobals "is_in_memory" = some (some (.ref a_is_in_memory)))
    (l_is_in_memory : K.lookup a_is_in_memory = some ⟨oc_is_in_memory, od_is_in_memory, .func (PySem.W.fnOf "is_in_memory" "is_in_memory" (defArgs s_is_in_memory) (defBody s_is_in_memory) (defScope s_is_in_memory) .none kV_is_in_memory dc_is_in_memory pm_is_in_memory an_is_in_memory cd_is_in_memory ct_is_in_memory), sl_is_in_memory⟩)
    (e_is_in_memory : PySem.W.codeIn K cd_is_in_memory "is_in_memory" = true)
    (k_is_in_memory : PySem.W.keepIn K (.ref a_is_in_memory) = true)
    (g_c8_key : PySem.W.nsIn K mainGlobals "c8_key" = some (some (.ref a_c8_key)))
    (l_c8_key : K.lookup a_c8_key = some ⟨oc_c8_key, od_c8_key, .func (PySem.W.fnOf "c8_key" "c8_key" (defArgs s_c8_key) (defBody s_c8_key) (defScope s_c8_key) .none kV_c8_key dc_c8_key pm_c8_key an_c8_key cd_c8_key ct_c8_key), sl_c8_key⟩)
    (e_c8_key : PySem.W.codeIn K cd_c8_key "c8_key" = true)
    (k_c8_key : PySem.W.keepIn K (.ref a_c8_key) = true)
    (g_c8_tick : PySem.W.nsIn K mainGlobals "c8_tick" = some (some (.ref a_c8_tick)))
    (l_c8_tick : K.lookup a_c8_tick = some ⟨oc_c8_tick, od_c8_tick, .func (PySem.W.fnOf "c8_tick" "c8_tick" (defArgs s_c8_tick) (defBody s_c8_tick) (defScope s_c8_tick) .none kV_c8_tick dc_c8_tick pm_c8_tick an_c8_tick cd_c8_tick ct_c8_tick), sl_c8_tick⟩)
    (e_c8_tick : PySem.W.codeIn K cd_c8_tick "c8_tick" = true)
    (k_c8_tick : PySem.W.keepIn K (.ref a_c8_tick) = true)
    (g_one_less : PySem.W.nsIn K mainGlobals "one_less" = some (some (.ref a_one_less)))
    (l_one_less : K.lookup a_one_less = some ⟨oc_one_less, od_one_less, .func (PySem.W.fnOf "one_less" "one_less" (defArgs s_one_less) (defBody s_one_less) (defScope s_one_less) .none kV_one_less dc_one_less pm_one_less an_one_less cd_one_less ct_one_less), sl_one_less⟩)
    (e_one_less : PySem.W.codeIn K cd_one_less "one_less" = true)
    (k_one_less : PySem.W.keepIn K (.ref a_one_less) = true)
    (g_c8_run : PySem.W.nsIn K mainGlobals "c8_run" = some (some (.ref a_c8_run)))
    (l_c8_run : K.lookup a_c8_run = some ⟨oc_c8_run, od_c8_run, .func (PySem.W.fnOf "c8_run" "c8_run" (defArgs s_c8_run) (defBody s_c8_run) (defScope s_c8_run) .none kV_c8_run dc_c8_run pm_c8_run an_c8_run cd_c8_run ct_c8_run), sl_c8_run⟩)
    (e_c8_run : PySem.W.codeIn K cd_c8_run "c8_run" = true)
    (k_c8_run : PySem.W.keepIn K (.ref a_c8_run) = true)
    (g_c8_why : PySem.W.nsIn K mainGlobals "c8_why" = some (some (.ref a_c8_why)))
    (l_c8_why : K.lookup a_c8_why = some ⟨oc_c8_why, od_c8_why, .func (PySem.W.fnOf "c8_why" "c8_why" (defArgs s_c8_why) (defBody s_c8_why) (defScope s_c8_why) .none kV_c8_why dc_c8_why pm_c8_why an_c8_why cd_c8_why ct_c8_why), sl_c8_why⟩)
    (e_c8_why : PySem.W.codeIn K cd_c8_why "c8_why" = true)
    (k_c8_why : PySem.W.keepIn K (.ref a_c8_why) = true)
    (g_c8_get : PySem.W.nsIn K mainGlobals "c8_get" = some (some (.ref a_c8_get)))
    (l_c8_get : K.lookup a_c8_get = some ⟨oc_c8_get, od_c8_get, .func (PySem.W.fnOf "c8_get" "c8_get" (defArgs s_c8_get) (defBody s_c8_get) (defScope s_c8_get) .none kV_c8_get dc_c8_get pm_c8_get an_c8_get cd_c8_get ct_c8_get), sl_c8_get⟩)
    (e_c8_get : PySem.W.codeIn K cd_c8_get "c8_get" = true)
    (k_c8_get : PySem.W.keepIn K (.ref a_c8_get) = true)
    (g_c8_set : PySem.W.nsIn K mainGlobals "c8_set" = some (some (.ref a_c8_set)))
    (l_c8_set : K.lookup a_c8_set = some ⟨oc_c8_set, od_c8_set, .func (PySem.W.fnOf "c8_set" "c8_set" (defArgs s_c8_set) (defBody s_c8_set) (defScope s_c8_set) .none kV_c8_set dc_c8_set pm_c8_set an_c8_set cd_c8_set ct_c8_set), sl_c8_set⟩)
    (e_c8_set : PySem.W.codeIn K cd_c8_set "c8_set" = true)
    (k_c8_set : PySem.W.keepIn K (.ref a_c8_set) = true)
    (g_c8_screen : PySem.W.nsIn K mainGlobals "c8_screen" = some (some (.ref a_c8_screen)))
    (l_c8_screen : K.lookup a_c8_screen = some ⟨oc_c8_screen, od_c8_screen, .func (PySem.W.fnOf "c8_screen" "c8_screen" (defArgs s_c8_screen) (defBody s_c8_screen) (defScope s_c8_screen) .none kV_c8_screen dc_c8_screen pm_c8_screen an_c8_screen cd_c8_screen ct_c8_screen), sl_c8_screen⟩)
    (e_c8_screen : PySem.W.codeIn K cd_c8_screen "c8_screen" = true)
    (k_c8_screen : PySem.W.keepIn K (.ref a_c8_screen) = true)
    (m_Reader___init__ : PySem.W.findIn K (.ref c_Reader) "__init__" = some (some (.ref a_Reader___init__)))
    (i_Reader___init__ : PySem.W.isFn K (.ref a_Reader___init__) = true)
    (l_Reader___init__ : K.lookup a_Reader___init__ = some ⟨oc_Reader___init__, od_Reader___init__, .func (PySem.W.fnOf "__init__" "Reader.__init__" (defArgs s_Reader___init__) (defBody s_Reader___init__) (defScope s_Reader___init__) .none kV_Reader___init__ dc_Reader___init__ pm_Reader___init__ an_Reader___init__ cd_Reader___init__ ct_Reader___init__), sl_Reader___init__⟩)
    (e_Reader___init__ : PySem.W.codeIn K cd_Reader___init__ "Reader.__init__" = true)
    (k_Reader___init__ : PySem.W.keepIn K (.ref a_Reader___init__) = true)
    (m_Reader_has_more : PySem.W.findIn K (.ref c_Reader) "has_more" = some (some (.ref a_Reader_has_more)))
    (i_Reader_has_more : PySem.W.isFn K (.ref a_Reader_has_more) = true)
    (l_Reader_has_more : K.lookup a_Reader_has_more = some ⟨oc_Reader_has_more, od_Reader_has_more, .func (PySem.W.fnOf "has_more" "Reader.has_more" (defArgs s_Reader_has_more) (defBody s_Reader_has_more) (defScope s_Reader_has_more) .none kV_Reader_has_more dc_Reader_has_more pm_Reader_has_more an_Reader_has_more cd_Reader_has_more ct_Reader_has_more), sl_Reader_has_more⟩)
    (e_Reader_has_more : PySem.W.codeIn K cd_Reader_has_more "Reader.has_more" = true)
    (k_Reader_has_more : PySem.W.keepIn K (.ref a_Reader_has_more) = true)
    (m_Reader_take : PySem.W.findIn K (.ref c_Reader) "take" = some (some (.ref a_Reader_take)))
    (i_Reader_take : PySem.W.isFn K (.ref a_Reader_take) = true)
    (l_Reader_take : K.lookup a_Reader_take = some ⟨oc_Reader_take, od_Reader_take, .func (PySem.W.fnOf "take" "Reader.take" (defArgs s_Reader_take) (defBody s_Reader_take) (defScope s_Reader_take) .none kV_Reader_take dc_Reader_take pm_Reader_take an_Reader_take cd_Reader_take ct_Reader_take), sl_Reader_take⟩)
    (e_Reader_take : PySem.W.codeIn K cd_Reader_take "Reader.take" = true)
    (k_Reader_take : PySem.W.keepIn K (.ref a_Reader_take) = true)
    (m_Reader_take_row : PySem.W.findIn K (.ref c_Reader) "take_row" = some (some (.ref a_Reader_take_row)))
    (i_Reader_take_row : PySem.W.isFn K (.ref a_Reader_take_row) = true)
    (l_Reader_take_row : K.lookup a_Reader_take_row = some ⟨oc_Reader_take_row, od_Reader_take_row, .func (PySem.W.fnOf "take_row" "Reader.take_row" (defArgs s_Reader_take_row) (defBody s_Reader_take_row) (defScope s_Reader_take_row) .none kV_Reader_take_row dc_Reader_take_row pm_Reader_take_row an_Reader_take_row cd_Reader_take_row ct_Reader_take_row), sl_Reader_take_row⟩)
    (e_Reader_take_row : PySem.W.codeIn K cd_Reader_take_row "Reader.take_row" = true)
    (k_Reader_take_row : PySem.W.keepIn K (.ref a_Reader_take_row) = true)
    (g_answers : PySem.W.nsIn K mainGlobals "answers" = some (some (.ref a_answers)))
    (l_answers : K.lookup a_answers = some ⟨oc_answers, od_answers, .func (PySem.W.fnOf "answers" "answers" (defArgs s_answers) (defBody s_answers) (defScope s_answers) .none kV_answers dc_answers pm_answers an_answers cd_answers ct_answers), sl_answers⟩)
    (e_answers : PySem.W.codeIn K cd_answers "answers" = true)
    (k_answers : PySem.W.keepIn K (.ref a_answers) = true)
    (g_answer_call : PySem.W.nsIn K mainGlobals "answer_call" = some (some (.ref a_answer_call)))
    (l_answer_call : K.lookup a_answer_call = some ⟨oc_answer_call, od_answer_call, .func (PySem.W.fnOf "answer_call" "answer_call" (defArgs s_answer_call) (defBody s_answer_call) (defScope s_answer_call) .none kV_answer_call dc_answer_call pm_answer_call an_answer_call cd_answer_call ct_answer_call), sl_answer_call⟩)
    (e_answer_call : PySem.W.codeIn K cd_answer_call "answer_call" = true)
    (k_answer_call : PySem.W.keepIn K (.ref a_answer_call) = true)
    (t_CALCULATIONS : K.lookup k_CALCULATIONS = some ⟨.type "dict", none, .dict es_CALCULATIONS n_CALCULATIONS, #[]⟩)
    (w_CALCULATIONS : (k_CALCULATIONS == sysModules) = false)
    (v_CALCULATIONS : es_CALCULATIONS.toList.map absE = [((0 : Int), a_put_y), ((1 : Int), a_put_or), ((2 : Int), a_put_and), ((3 : Int), a_put_exclusive_or), ((4 : Int), a_put_sum), ((5 : Int), a_put_x_less_y), ((6 : Int), a_put_half), ((7 : Int), a_put_y_less_x), ((14 : Int), a_put_double)].map some)
    (t_TRANSFERS : K.lookup k_TRANSFERS = some ⟨.type "dict", none, .dict es_TRANSFERS n_TRANSFERS, #[]⟩)
    (w_TRANSFERS : (k_TRANSFERS == sysModules) = false)
    (v_TRANSFERS : es_TRANSFERS.toList.map absE = [((7 : Int), a_take_wait), ((10 : Int), a_take_key), ((21 : Int), a_set_wait), ((24 : Int), a_set_sound), ((30 : Int), a_move_i_on), ((41 : Int), a_point_at_digit), ((48 : Int), a_point_at_large_digit), ((51 : Int), a_write_decimal), ((85 : Int), a_write_registers), ((101 : Int), a_read_registers), ((117 : Int), a_keep_aside), ((133 : Int), a_take_from_aside)].map some)
    (t_BY_FIRST_DIGIT : K.lookup k_BY_FIRST_DIGIT = some ⟨.type "tuple", od_BY_FIRST_DIGIT, .seq its_BY_FIRST_DIGIT n_BY_FIRST_DIGIT, sl_BY_FIRST_DIGIT⟩)
    (v_BY_FIRST_DIGIT : its_BY_FIRST_DIGIT.toList.map absV = [V.ref a_do_without_registers, V.ref a_jump, V.ref a_jump_and_come_back, V.ref a_pass_if_number, V.ref a_pass_if_not_number, V.ref a_pass_if_equal, V.ref a_put_number, V.ref a_add_number, V.ref a_do_calculation, V.ref a_pass_if_unequal, V.ref a_put_i, V.ref a_jump_further, V.ref a_take_chance, V.ref a_draw, V.ref a_pass_by_key, V.ref a_do_transfer].map some)
    : ∃ fd : FuncData, (∀ (s : Shared) (us : List Value), us.length = (["calls"] : List Str).length → BindsTo s fd ⟨us, []⟩ ((["calls"] : List Str).zip us)) ∧ ∀ base : Heap, K.In base → base.Ns mainGlobals mg → FnOk P w K mg base CX0 8 fa fd ["calls"] (spAns K) := by
  have e : fa = a_answers := by
    have e := hfa.symm.trans (PySem.W.mg_of X G g_answers)
    cases e
    rfl
  rw [e]
  let A : Ad := { c_Machine := c_Machine, c_Reader := c_Reader, a_Machine___init__ := a_Machine___init__, d_Machine___init__ := PySem.W.fnOf "__init__" "Machine.__init__" (defArgs s_Machine___init__) (defBody s_Machine___init__) (defScope s_Machine___init__) .none kV_Machine___init__ dc_Machine___init__ pm_Machine___init__ an_Machine___init__ cd_Machine___init__ ct_Machine___init__, a_Machine_begin := a_Machine_begin, d_Machine_begin := PySem.W.fnOf "begin" "Machine.begin" (defArgs s_Machine_begin) (defBody s_Machine_begin) (defScope s_Machine_begin) .none kV_Machine_begin dc_Machine_begin pm_Machine_begin an_Machine_begin cd_Machine_begin ct_Machine_begin, a_put_with_vf := a_put_with_vf, d_put_with_vf := PySem.W.fnOf "put_with_vf" "put_with_vf" (defArgs s_put_with_vf) (defBody s_put_with_vf) (defScope s_put_with_vf) .none kV_put_with_vf dc_put_with_vf pm_put_with_vf an_put_with_vf cd_put_with_vf ct_put_with_vf, a_put_y := a_put_y, d_put_y := PySem.W.fnOf "put_y" "put_y" (defArgs s_put_y) (defBody s_put_y) (defScope s_put_y) .none kV_put_y dc_put_y pm_put_y an_put_y cd_put_y ct_put_y, a_put_or := a_put_or, d_put_or := PySem.W.fnOf "put_or" "put_or" (defArgs s_put_or) (defBody s_put_or) (defScope s_put_or) .none kV_put_or dc_put_or pm_put_or an_put_or cd_put_or ct_put_or, a_put_and := a_put_and, d_put_and := PySem.W.fnOf "put_and" "put_and" (defArgs s_put_and) (defBody s_put_and) (defScope s_put_and) .none kV_put_and dc_put_and pm_put_and an_put_and cd_put_and ct_put_and, a_put_exclusive_or := a_put_exclusive_or, d_put_exclusive_or := PySem.W.fnOf "put_exclusive_or" "put_exclusive_or" (defArgs s_put_exclusive_or) (defBody s_put_exclusive_or) (defScope s_put_exclusive_or) .none kV_put_exclusive_or dc_put_exclusive_or pm_put_exclusive_or an_put_exclusive_or cd_put_exclusive_or ct_put_exclusive_or, a_put_sum := a_put_sum, d_put_sum := PySem.W.fnOf "put_sum" "put_sum" (defArgs s_put_sum) (defBody s_put_sum) (defScope s_put_sum) .none kV_put_sum dc_put_sum pm_put_sum an_put_sum cd_put_sum ct_put_sum, a_put_x_less_y := a_put_x_less_y, d_put_x_less_y := PySem.W.fnOf "put_x_less_y" "put_x_less_y" (defArgs s_put_x_less_y) (defBody s_put_x_less_y) (defScope s_put_x_less_y) .none kV_put_x_less_y dc_put_x_less_y pm_put_x_less_y an_put_x_less_y cd_put_x_less_y ct_put_x_less_y, a_put_y_less_x := a_put_y_less_x, d_put_y_less_x := PySem.W.fnOf "put_y_less_x" "put_y_less_x" (defArgs s_put_y_less_x) (defBody s_put_y_less_x) (defScope s_put_y_less_x) .none kV_put_y_less_x dc_put_y_less_x pm_put_y_less_x an_put_y_less_x cd_put_y_less_x ct_put_y_less_x, a_put_half := a_put_half, d_put_half := PySem.W.fnOf "put_half" "put_half" (defArgs s_put_half) (defBody s_put_half) (defScope s_put_half) .none kV_put_half dc_put_half pm_put_half an_put_half cd_put_half ct_put_half, a_put_double := a_put_double, d_put_double := PySem.W.fnOf "put_double" "put_double" (defArgs s_put_double) (defBody s_put_double) (defScope s_put_double) .none kV_put_double dc_put_double pm_put_double an_put_double cd_put_double ct_put_double, a_calculate := a_calculate, d_calculate := PySem.W.fnOf "calculate" "calculate" (defArgs s_calculate) (defBody s_calculate) (defScope s_calculate) .none kV_calculate dc_calculate pm_calculate an_calculate cd_calculate ct_calculate, a_next_chance := a_next_chance, d_next_chance := PySem.W.fnOf "next_chance" "next_chance" (defArgs s_next_chance) (defBody s_next_chance) (defScope s_next_chance) .none kV_next_chance dc_next_chance pm_next_chance an_next_chance cd_next_chance ct_next_chance, a_screen_width := a_screen_width, d_screen_width := PySem.W.fnOf "screen_width" "screen_width" (defArgs s_screen_width) (defBody s_screen_width) (defScope s_screen_width) .none kV_screen_width dc_screen_width pm_screen_width an_screen_width cd_screen_width ct_screen_width, a_darken := a_darken, d_darken := PySem.W.fnOf "darken" "darken" (defArgs s_darken) (defBody s_darken) (defScope s_darken) .none kV_darken dc_darken pm_darken an_darken cd_darken ct_darken, a_make_small := a_make_small, d_make_small := PySem.W.fnOf "make_small" "make_small" (defArgs s_make_small) (defBody s_make_small) (defScope s_make_small) .none kV_make_small dc_make_small pm_make_small an_make_small cd_make_small ct_make_small, a_make_large := a_make_large, d_make_large := PySem.W.fnOf "make_large" "make_large" (defArgs s_make_large) (defBody s_make_large) (defScope s_make_large) .none kV_make_large dc_make_large pm_make_large an_make_large cd_make_large ct_make_large, a_move_down := a_move_down, d_move_down := PySem.W.fnOf "move_down" "move_down" (defArgs s_move_down) (defBody s_move_down) (defScope s_move_down) .none kV_move_down dc_move_down pm_move_down an_move_down cd_move_down ct_move_down, a_move_right := a_move_right, d_move_right := PySem.W.fnOf "move_right" "move_right" (defArgs s_move_right) (defBody s_move_right) (defScope s_move_right) .none kV_move_right dc_move_right pm_move_right an_move_right cd_move_right ct_move_right, a_move_left := a_move_left, d_move_left := PySem.W.fnOf "move_left" "move_left" (defArgs s_move_left) (defBody s_move_left) (defScope s_move_left) .none kV_move_left dc_move_left pm_move_left an_move_left cd_move_left ct_move_left, a_lay_shape := a_lay_shape, d_lay_shape := PySem.W.fnOf "lay_shape" "lay_shape" (defArgs s_lay_shape) (defBody s_lay_shape) (defScope s_lay_shape) .none kV_lay_shape dc_lay_shape pm_lay_shape an_lay_shape cd_lay_shape ct_lay_shape, a_fit_points := a_fit_points, d_fit_points := PySem.W.fnOf "fit_points" "fit_points" (defArgs s_fit_points) (defBody s_fit_points) (defScope s_fit_points) .none kV_fit_points dc_fit_points pm_fit_points an_fit_points cd_fit_points ct_fit_points, a_screen_bytes := a_screen_bytes, d_screen_bytes := PySem.W.fnOf "screen_bytes" "screen_bytes" (defArgs s_screen_bytes) (defBody s_screen_bytes) (defScope s_screen_bytes) .none kV_screen_bytes dc_screen_bytes pm_screen_bytes an_screen_bytes cd_screen_bytes ct_screen_bytes, a_take_wait := a_take_wait, d_take_wait := PySem.W.fnOf "take_wait" "take_wait" (defArgs s_take_wait) (defBody s_take_wait) (defScope s_take_wait) .none kV_take_wait dc_take_wait pm_take_wait an_take_wait cd_take_wait ct_take_wait, a_take_key := a_take_key, d_take_key := PySem.W.fnOf "take_key" "take_key" (defArgs s_take_key) (defBody s_take_key) (defScope s_take_key) .none kV_take_key dc_take_key pm_take_key an_take_key cd_take_key ct_take_key, a_set_wait := a_set_wait, d_set_wait := PySem.W.fnOf "set_wait" "set_wait" (defArgs s_set_wait) (defBody s_set_wait) (defScope s_set_wait) .none kV_set_wait dc_set_wait pm_set_wait an_set_wait cd_set_wait ct_set_wait, a_set_sound := a_set_sound, d_set_sound := PySem.W.fnOf "set_sound" "set_sound" (defArgs s_set_sound) (defBody s_set_sound) (defScope s_set_sound) .none kV_set_sound dc_set_sound pm_set_sound an_set_sound cd_set_sound ct_set_sound, a_move_i_on := a_move_i_on, d_move_i_on := PySem.W.fnOf "move_i_on" "move_i_on" (defArgs s_move_i_on) (defBody s_move_i_on) (defScope s_move_i_on) .none kV_move_i_on dc_move_i_on pm_move_i_on an_move_i_on cd_move_i_on ct_move_i_on, a_point_at_digit := a_point_at_digit, d_point_at_digit := PySem.W.fnOf "point_at_digit" "point_at_digit" (defArgs s_point_at_digit) (defBody s_point_at_digit) (defScope s_point_at_digit) .none kV_point_at_digit dc_point_at_digit pm_point_at_digit an_point_at_digit cd_point_at_digit ct_point_at_digit, a_point_at_large_digit := a_point_at_large_digit, d_point_at_large_digit := PySem.W.fnOf "point_at_large_digit" "point_at_large_digit" (defArgs s_point_at_large_digit) (defBody s_point_at_large_digit) (defScope s_point_at_large_digit) .none kV_point_at_large_digit dc_point_at_large_digit pm_point_at_large_digit an_point_at_large_digit cd_point_at_large_digit ct_point_at_large_digit, a_write_decimal := a_write_decimal, d_write_decimal := PySem.W.fnOf "write_decimal" "write_decimal" (defArgs s_write_decimal) (defBody s_write_decimal) (defScope s_write_decimal) .none kV_write_decimal dc_write_decimal pm_write_decimal an_write_decimal cd_write_decimal ct_write_decimal, a_write_registers := a_write_registers, d_write_registers := PySem.W.fnOf "write_registers" "write_registers" (defArgs s_write_registers) (defBody s_write_registers) (defScope s_write_registers) .none kV_write_registers dc_write_registers pm_write_registers an_write_registers cd_write_registers ct_write_registers, a_read_registers := a_read_registers, d_read_registers := PySem.W.fnOf "read_registers" "read_registers" (defArgs s_read_registers) (defBody s_read_registers) (defScope s_read_registers) .none kV_read_registers dc_read_registers pm_read_registers an_read_registers cd_read_registers ct_read_registers, a_keep_aside := a_keep_aside, d_keep_aside := PySem.W.fnOf "keep_aside" "keep_aside" (defArgs s_keep_aside) (defBody s_keep_aside) (defScope s_keep_aside) .none kV_keep_aside dc_keep_aside pm_keep_aside an_keep_aside cd_keep_aside ct_keep_aside, a_take_from_aside := a_take_from_aside, d_take_from_aside := PySem.W.fnOf "take_from_aside" "take_from_aside" (defArgs s_take_from_aside) (defBody s_take_from_aside) (defScope s_take_from_aside) .none kV_take_from_aside dc_take_from_aside pm_take_from_aside an_take_from_aside cd_take_from_aside ct_take_from_aside, a_transfer := a_transfer, d_transfer := PySem.W.fnOf "transfer" "transfer" (defArgs s_transfer) (defBody s_transfer) (defScope s_transfer) .none kV_transfer dc_transfer pm_transfer an_transfer cd_transfer ct_transfer, a_digit_x := a_digit_x, d_digit_x := PySem.W.fnOf "digit_x" "digit_x" (defArgs s_digit_x) (defBody s_digit_x) (defScope s_digit_x) .none kV_digit_x dc_digit_x pm_digit_x an_digit_x cd_digit_x ct_digit_x, a_digit_y := a_digit_y, d_digit_y := PySem.W.fnOf "digit_y" "digit_y" (defArgs s_digit_y) (defBody s_digit_y) (defScope s_digit_y) .none kV_digit_y dc_digit_y pm_digit_y an_digit_y cd_digit_y ct_digit_y, a_value_x := a_value_x, d_value_x := PySem.W.fnOf "value_x" "value_x" (defArgs s_value_x) (defBody s_value_x) (defScope s_value_x) .none kV_value_x dc_value_x pm_value_x an_value_x cd_value_x ct_value_x, a_value_y := a_value_y, d_value_y := PySem.W.fnOf "value_y" "value_y" (defArgs s_value_y) (defBody s_value_y) (defScope s_value_y) .none kV_value_y dc_value_y pm_value_y an_value_y cd_value_y ct_value_y, a_go_to := a_go_to, d_go_to := PySem.W.fnOf "go_to" "go_to" (defArgs s_go_to) (defBody s_go_to) (defScope s_go_to) .none kV_go_to dc_go_to pm_go_to an_go_to cd_go_to ct_go_to, a_pass_over_if := a_pass_over_if, d_pass_over_if := PySem.W.fnOf "pass_over_if" "pass_over_if" (defArgs s_pass_over_if) (defBody s_pass_over_if) (defScope s_pass_over_if) .none kV_pass_over_if dc_pass_over_if pm_pass_over_if an_pass_over_if cd_pass_over_if ct_pass_over_if, a_come_back := a_come_back, d_come_back := PySem.W.fnOf "come_back" "come_back" (defArgs s_come_back) (defBody s_come_back) (defScope s_come_back) .none kV_come_back dc_come_back pm_come_back an_come_back cd_come_back ct_come_back, a_change_screen := a_change_screen, d_change_screen := PySem.W.fnOf "change_screen" "change_screen" (defArgs s_change_screen) (defBody s_change_screen) (defScope s_change_screen) .none kV_change_screen dc_change_screen pm_change_screen an_change_screen cd_change_screen ct_change_screen, a_do_without_registers := a_do_without_registers, d_do_without_registers := PySem.W.fnOf "do_without_registers" "do_without_registers" (defArgs s_do_without_registers) (defBody s_do_without_registers) (defScope s_do_without_registers) .none kV_do_without_registers dc_do_without_registers pm_do_without_registers an_do_without_registers cd_do_without_registers ct_do_without_registers, a_jump := a_jump, d_jump := PySem.W.fnOf "jump" "jump" (defArgs s_jump) (defBody s_jump) (defScope s_jump) .none kV_jump dc_jump pm_jump an_jump cd_jump ct_jump, a_jump_and_come_back := a_jump_and_come_back, d_jump_and_come_back := PySem.W.fnOf "jump_and_come_back" "jump_and_come_back" (defArgs s_jump_and_come_back) (defBody s_jump_and_come_back) (defScope s_jump_and_come_back) .none kV_jump_and_come_back dc_jump_and_come_back pm_jump_and_come_back an_jump_and_come_back cd_jump_and_come_back ct_jump_and_come_back, a_pass_if_number := a_pass_if_number, d_pass_if_number := PySem.W.fnOf "pass_if_number" "pass_if_number" (defArgs s_pass_if_number) (defBody s_pass_if_number) (defScope s_pass_if_number) .none kV_pass_if_number dc_pass_if_number pm_pass_if_number an_pass_if_number cd_pass_if_number ct_pass_if_number, a_pass_if_not_number := a_pass_if_not_number, d_pass_if_not_number := PySem.W.fnOf "pass_if_not_number" "pass_if_not_number" (defArgs s_pass_if_not_number) (defBody s_pass_if_not_number) (defScope s_pass_if_not_number) .none kV_pass_if_not_number dc_pass_if_not_number pm_pass_if_not_number an_pass_if_not_number cd_pass_if_not_number ct_pass_if_not_number, a_pass_if_equal := a_pass_if_equal, d_pass_if_equal := PySem.W.fnOf "pass_if_equal" "pass_if_equal" (defArgs s_pass_if_equal) (defBody s_pass_if_equal) (defScope s_pass_if_equal) .none kV_pass_if_equal dc_pass_if_equal pm_pass_if_equal an_pass_if_equal cd_pass_if_equal ct_pass_if_equal, a_put_number := a_put_number, d_put_number := PySem.W.fnOf "put_number" "put_number" (defArgs s_put_number) (defBody s_put_number) (defScope s_put_number) .none kV_put_number dc_put_number pm_put_number an_put_number cd_put_number ct_put_number, a_add_number := a_add_number, d_add_number := PySem.W.fnOf "add_number" "add_number" (defArgs s_add_number) (defBody s_add_number) (defScope s_add_number) .none kV_add_number dc_add_number pm_add_number an_add_number cd_add_number ct_add_number, a_do_calculation := a_do_calculation, d_do_calculation := PySem.W.fnOf "do_calculation" "do_calculation" (defArgs s_do_calculation) (defBody s_do_calculation) (defScope s_do_calculation) .none kV_do_calculation dc_do_calculation pm_do_calculation an_do_calculation cd_do_calculation ct_do_calculation, a_pass_if_unequal := a_pass_if_unequal, d_pass_if_unequal := PySem.W.fnOf "pass_if_unequal" "pass_if_unequal" (defArgs s_pass_if_unequal) (defBody s_pass_if_unequal) (defScope s_pass_if_unequal) .none kV_pass_if_unequal dc_pass_if_unequal pm_pass_if_unequal an_pass_if_unequal cd_pass_if_unequal ct_pass_if_unequal, a_put_i := a_put_i, d_put_i := PySem.W.fnOf "put_i" "put_i" (defArgs s_put_i) (defBody s_put_i) (defScope s_put_i) .none kV_put_i dc_put_i pm_put_i an_put_i cd_put_i ct_put_i, a_jump_further := a_jump_further, d_jump_further := PySem.W.fnOf "jump_further" "jump_further" (defArgs s_jump_further) (defBody s_jump_further) (defScope s_jump_further) .none kV_jump_further dc_jump_further pm_jump_further an_jump_further cd_jump_further ct_jump_further, a_take_chance := a_take_chance, d_take_chance := PySem.W.fnOf "take_chance" "take_chance" (defArgs s_take_chance) (defBody s_take_chance) (defScope s_take_chance) .none kV_take_chance dc_take_chance pm_take_chance an_take_chance cd_take_chance ct_take_chance, a_draw := a_draw, d_draw := PySem.W.fnOf "draw" "draw" (defArgs s_draw) (defBody s_draw) (defScope s_draw) .none kV_draw dc_draw pm_draw an_draw cd_draw ct_draw, a_narrow_shape := a_narrow_shape, d_narrow_shape := PySem.W.fnOf "narrow_shape" "narrow_shape" (defArgs s_narrow_shape) (defBody s_narrow_shape) (defScope s_narrow_shape) .none kV_narrow_shape dc_narrow_shape pm_narrow_shape an_narrow_shape cd_narrow_shape ct_narrow_shape, a_wide_shape := a_wide_shape, d_wide_shape := PySem.W.fnOf "wide_shape" "wide_shape" (defArgs s_wide_shape) (defBody s_wide_shape) (defScope s_wide_shape) .none kV_wide_shape dc_wide_shape pm_wide_shape an_wide_shape cd_wide_shape ct_wide_shape, a_word_at := a_word_at, d_word_at := PySem.W.fnOf "word_at" "word_at" (defArgs s_word_at) (defBody s_word_at) (defScope s_word_at) .none kV_word_at dc_word_at pm_word_at an_word_at cd_word_at ct_word_at, a_pass_by_key := a_pass_by_key, d_pass_by_key := PySem.W.fnOf "pass_by_key" "pass_by_key" (defArgs s_pass_by_key) (defBody s_pass_by_key) (defScope s_pass_by_key) .none kV_pass_by_key dc_pass_by_key pm_pass_by_key an_pass_by_key cd_pass_by_key ct_pass_by_key, a_do_transfer := a_do_transfer, d_do_transfer := PySem.W.fnOf "do_transfer" "do_transfer" (defArgs s_do_transfer) (defBody s_do_transfer) (defScope s_do_transfer) .none kV_do_transfer dc_do_transfer pm_do_transfer an_do_transfer cd_do_transfer ct_do_transfer, a_do_instruction := a_do_instruction, d_do_instruction := PySem.W.fnOf "do_instruction" "do_instruction" (defArgs s_do_instruction) (defBody s_do_instruction) (defScope s_do_instruction) .none kV_do_instruction dc_do_instruction pm_do_instruction an_do_instruction cd_do_instruction ct_do_instruction, a_c8_clear := a_c8_clear, d_c8_clear := PySem.W.fnOf "c8_clear" "c8_clear" (defArgs s_c8_clear) (defBody s_c8_clear) (defScope s_c8_clear) .none kV_c8_clear dc_c8_clear pm_c8_clear an_c8_clear cd_c8_clear ct_c8_clear, a_c8_load := a_c8_load, d_c8_load := PySem.W.fnOf "c8_load" "c8_load" (defArgs s_c8_load) (defBody s_c8_load) (defScope s_c8_load) .none kV_c8_load dc_c8_load pm_c8_load an_c8_load cd_c8_load ct_c8_load, a_c8_look := a_c8_look, d_c8_look := PySem.W.fnOf "c8_look" "c8_look" (defArgs s_c8_look) (defBody s_c8_look) (defScope s_c8_look) .none kV_c8_look dc_c8_look pm_c8_look an_c8_look cd_c8_look ct_c8_look, a_is_in_memory := a_is_in_memory, d_is_in_memory := PySem.W.fnOf "is_in_memory" "is_in_memory" (defArgs s_is_in_memory) (defBody s_is_in_memory) (defScope s_is_in_memory) .none kV_is_in_memory dc_is_in_memory pm_is_in_memory an_is_in_memory cd_is_in_memory ct_is_in_memory, a_c8_key := a_c8_key, d_c8_key := PySem.W.fnOf "c8_key" "c8_key" (defArgs s_c8_key) (defBody s_c8_key) (defScope s_c8_key) .none kV_c8_key dc_c8_key pm_c8_key an_c8_key cd_c8_key ct_c8_key, a_c8_tick := a_c8_tick, d_c8_tick := PySem.W.fnOf "c8_tick" "c8_tick" (defArgs s_c8_tick) (defBody s_c8_tick) (defScope s_c8_tick) .none kV_c8_tick dc_c8_tick pm_c8_tick an_c8_tick cd_c8_tick ct_c8_tick, a_one_less := a_one_less, d_one_less := PySem.W.fnOf "one_less" "one_less" (defArgs s_one_less) (defBody s_one_less) (defScope s_one_less) .none kV_one_less dc_one_less pm_one_less an_one_less cd_one_less ct_one_less, a_c8_run := a_c8_run, d_c8_run := PySem.W.fnOf "c8_run" "c8_run" (defArgs s_c8_run) (defBody s_c8_run) (defScope s_c8_run) .none kV_c8_run dc_c8_run pm_c8_run an_c8_run cd_c8_run ct_c8_run, a_c8_why := a_c8_why, d_c8_why := PySem.W.fnOf "c8_why" "c8_why" (defArgs s_c8_why) (defBody s_c8_why) (defScope s_c8_why) .none kV_c8_why dc_c8_why pm_c8_why an_c8_why cd_c8_why ct_c8_why, a_c8_get := a_c8_get, d_c8_get := PySem.W.fnOf "c8_get" "c8_get" (defArgs s_c8_get) (defBody s_c8_get) (defScope s_c8_get) .none kV_c8_get dc_c8_get pm_c8_get an_c8_get cd_c8_get ct_c8_get, a_c8_set := a_c8_set, d_c8_set := PySem.W.fnOf "c8_set" "c8_set" (defArgs s_c8_set) (defBody s_c8_set) (defScope s_c8_set) .none kV_c8_set dc_c8_set pm_c8_set an_c8_set cd_c8_set ct_c8_set, a_c8_screen := a_c8_screen, d_c8_screen := PySem.W.fnOf "c8_screen" "c8_screen" (defArgs s_c8_screen) (defBody s_c8_screen) (defScope s_c8_screen) .none kV_c8_screen dc_c8_screen pm_c8_screen an_c8_screen cd_c8_screen ct_c8_screen, a_Reader___init__ := a_Reader___init__, d_Reader___init__ := PySem.W.fnOf "__init__" "Reader.__init__" (defArgs s_Reader___init__) (defBody s_Reader___init__) (defScope s_Reader___init__) .none kV_Reader___init__ dc_Reader___init__ pm_Reader___init__ an_Reader___init__ cd_Reader___init__ ct_Reader___init__, a_Reader_has_more := a_Reader_has_more, d_Reader_has_more := PySem.W.fnOf "has_more" "Reader.has_more" (defArgs s_Reader_has_more) (defBody s_Reader_has_more) (defScope s_Reader_has_more) .none kV_Reader_has_more dc_Reader_has_more pm_Reader_has_more an_Reader_has_more cd_Reader_has_more ct_Reader_has_more, a_Reader_take := a_Reader_take, d_Reader_take := PySem.W.fnOf "take" "Reader.take" (defArgs s_Reader_take) (defBody s_Reader_take) (defScope s_Reader_take) .none kV_Reader_take dc_Reader_take pm_Reader_take an_Reader_take cd_Reader_take ct_Reader_take, a_Reader_take_row := a_Reader_take_row, d_Reader_take_row := PySem.W.fnOf "take_row" "Reader.take_row" (defArgs s_Reader_take_row) (defBody s_Reader_take_row) (defScope s_Reader_take_row) .none kV_Reader_take_row dc_Reader_take_row pm_Reader_take_row an_Reader_take_row cd_Reader_take_row ct_Reader_take_row, a_answers := a_answers, d_answers := PySem.W.fnOf "answers" "answers" (defArgs s_answers) (defBody s_answers) (defScope s_answers) .none kV_answers dc_answers pm_answers an_answers cd_answers ct_answers, a_answer_call := a_answer_call, d_answer_call := PySem.W.fnOf "answer_call" "answer_call" (defArgs s_answer_call) (defBody s_answer_call) (defScope s_answer_call) .none kV_answer_call dc_answer_call pm_answer_call an_answer_call cd_answer_call ct_answer_call, k_DIGITS := k_DIGITS, k_CALCULATIONS := k_CALCULATIONS, k_TRANSFERS := k_TRANSFERS, k_BY_FIRST_DIGIT := k_BY_FIRST_DIGIT }
  have T : Txt K mg A := ⟨PySem.W.ns_none_of X G n_enumerate,
    PySem.W.ns_none_of X G n_len,
    PySem.W.ns_none_of X G n_list,
    PySem.W.ns_none_of X G n_range,
    ⟨_, PySem.W.mg_of X G g_GOES_ON⟩,
    ⟨_, PySem.W.mg_of X G g_UNKNOWN⟩,
    ⟨_, PySem.W.mg_of X G g_NO_KEY⟩,
    ⟨_, PySem.W.mg_of X G g_WRONG_PLACES⟩,
    ⟨_, PySem.W.mg_of X G g_ENDED⟩,
    ⟨_, PySem.W.mg_of X G g_MEMORY_SIZE⟩,
    ⟨_, PySem.W.mg_of X G g_BYTE_COUNT⟩,
    ⟨_, PySem.W.mg_of X G g_WORD_COUNT⟩,
    ⟨_, PySem.W.mg_of X G g_REGISTER_COUNT⟩,
    ⟨_, PySem.W.mg_of X G g_VF⟩,
    ⟨_, PySem.W.mg_of X G g_KEY_COUNT⟩,
    ⟨_, PySem.W.mg_of X G g_ASIDE_COUNT⟩,
    ⟨_, PySem.W.mg_of X G g_PLACE_COUNT⟩,
    ⟨_, PySem.W.mg_of X G g_FIRST_PC⟩,
    ⟨_, PySem.W.mg_of X G g_SMALL_HEIGHT⟩,
    ⟨_, PySem.W.mg_of X G g_LARGE_HEIGHT⟩,
    PySem.W.mg_of X G g_DIGITS,
    tupK_mk t_DIGITS v_DIGITS (by decide),
    ⟨_, PySem.W.mg_of X G g_STATE_COUNT⟩,
    ⟨_, PySem.W.mg_of X G g_SMALL_WIDTH⟩,
    ⟨_, PySem.W.mg_of X G g_LARGE_WIDTH⟩,
    ⟨_, PySem.W.mg_of X G g_SCREEN_BYTES⟩,
    ⟨_, PySem.W.mg_of X G g_COLUMNS_MOVED⟩,
    ⟨_, PySem.W.mg_of X G g_DIGIT_BYTES⟩,
    ⟨_, PySem.W.mg_of X G g_LARGE_DIGITS_AT⟩,
    ⟨_, PySem.W.mg_of X G g_LARGE_DIGIT_BYTES⟩,
    ⟨_, PySem.W.mg_of X G g_DONE⟩,
    ⟨_, PySem.W.mg_of X G g_REFUSED⟩,
    ⟨_, PySem.W.mg_of X G g_LONGEST_RUN⟩,
    ⟨_, PySem.W.mg_of X G g_I_REGISTER⟩,
    ⟨_, PySem.W.mg_of X G g_PC_REGISTER⟩,
    ⟨_, PySem.W.mg_of X G g_WAIT_TIMER⟩,
    ⟨_, PySem.W.mg_of X G g_SOUND_TIMER⟩,
    ⟨_, PySem.W.mg_of X G g_PLACES_THERE⟩,
    ⟨_, PySem.W.mg_of X G g_CLEAR⟩,
    ⟨_, PySem.W.mg_of X G g_LOAD⟩,
    ⟨_, PySem.W.mg_of X G g_LOOK⟩,
    ⟨_, PySem.W.mg_of X G g_KEY⟩,
    ⟨_, PySem.W.mg_of X G g_TICK⟩,
    ⟨_, PySem.W.mg_of X G g_RUN⟩,
    ⟨_, PySem.W.mg_of X G g_WHY⟩,
    ⟨_, PySem.W.mg_of X G g_GET⟩,
    ⟨_, PySem.W.mg_of X G g_SET⟩,
    ⟨_, PySem.W.mg_of X G g_SCREEN⟩,
    PySem.W.mg_of X G g_CALCULATIONS,
    dicK_mk t_CALCULATIONS w_CALCULATIONS v_CALCULATIONS (show ([0, 1, 2, 3, 4, 5, 6, 7, 14] : List Int).Nodup by decide),
    PySem.W.mg_of X G g_TRANSFERS,
    dicK_mk t_TRANSFERS w_TRANSFERS v_TRANSFERS (show ([7, 10, 21, 24, 30, 41, 48, 51, 85, 101, 117, 133] : List Int).Nodup by decide),
    PySem.W.mg_of X G g_BY_FIRST_DIGIT,
    tupK_mk t_BY_FIRST_DIGIT v_BY_FIRST_DIGIT (by simp),
    PySem.W.mg_of X G g_Machine,
    ⟨pg_Machine, hd_Machine, po_Machine, sa_Machine⟩,
    ⟨mk_Machine, m_Machine___init__, i_Machine___init__, kc_Machine⟩,
    x_Machine_aside,
    x_Machine_chance,
    x_Machine_has_more,
    x_Machine_i,
    x_Machine_large,
    x_Machine_memory,
    x_Machine_numbers,
    x_Machine_pc,
    x_Machine_place,
    x_Machine_places,
    x_Machine_pressed,
    x_Machine_registers,
    x_Machine_rows,
    x_Machine_sound,
    x_Machine_stopped_by,
    x_Machine_take,
    x_Machine_take_row,
    x_Machine_wait,
    PySem.W.mg_of X G g_Reader,
    ⟨pg_Reader, hd_Reader, po_Reader, sa_Reader⟩,
    ⟨mk_Reader, m_Reader___init__, i_Reader___init__, kc_Reader⟩,
    x_Reader_aside,
    x_Reader_begin,
    x_Reader_chance,
    x_Reader_i,
    x_Reader_large,
    x_Reader_memory,
    x_Reader_numbers,
    x_Reader_pc,
    x_Reader_place,
    x_Reader_places,
    x_Reader_pressed,
    x_Reader_registers,
    x_Reader_rows,
    x_Reader_sound,
    x_Reader_stopped_by,
    x_Reader_wait,
    fun_mk (st := s_Machine___init__) l_Machine___init__ e_Machine___init__ k_Machine___init__,
    (fun_mk (st := s_Machine___init__) l_Machine___init__ e_Machine___init__ k_Machine___init__).binds (ps := ["self"]) fun _ _ _ _ _ _ us hl => match us, hl with | [_], _ => rfl,
    ⟨m_Machine___init__, i_Machine___init__, k_Machine___init__⟩,
    fun_mk (st := s_Machine_begin) l_Machine_begin e_Machine_begin k_Machine_begin,
    (fun_mk (st := s_Machine_begin) l_Machine_begin e_Machine_begin k_Machine_begin).binds (ps := ["self", "seed"]) fun _ _ _ _ _ _ us hl => match us, hl with | [_, _], _ => rfl,
    ⟨m_Machine_begin, i_Machine_begin, k_Machine_begin⟩,
    fun_mk (st := s_put_with_vf) l_put_with_vf e_put_with_vf k_put_with_vf,
    (fun_mk (st := s_put_with_vf) l_put_with_vf e_put_with_vf k_put_with_vf).binds (ps := ["machine", "x", "value", "vf"]) fun _ _ _ _ _ _ us hl => match us, hl with | [_, _, _, _], _ => rfl,
    PySem.W.mg_of X G g_put_with_vf,
    fun_mk (st := s_put_y) l_put_y e_put_y k_put_y,
    (fun_mk (st := s_put_y) l_put_y e_put_y k_put_y).binds (ps := ["machine", "x", "vx", "vy"]) fun _ _ _ _ _ _ us hl => match us, hl with | [_, _, _, _], _ => rfl,
    PySem.W.mg_of X G g_put_y,
    fun_mk (st := s_put_or) l_put_or e_put_or k_put_or,
    (fun_mk (st := s_put_or) l_put_or e_put_or k_put_or).binds (ps := ["machine", "x", "vx", "vy"]) fun _ _ _ _ _ _ us hl => match us, hl with | [_, _, _, _], _ => rfl,
    PySem.W.mg_of X G g_put_or,
    fun_mk (st := s_put_and) l_put_and e_put_and k_put_and,
    (fun_mk (st := s_put_and) l_put_and e_put_and k_put_and).binds (ps := ["machine", "x", "vx", "vy"]) fun _ _ _ _ _ _ us hl => match us, hl with | [_, _, _, _], _ => rfl,
    PySem.W.mg_of X G g_put_and,
    fun_mk (st := s_put_exclusive_or) l_put_exclusive_or e_put_exclusive_or k_put_exclusive_or,
    (fun_mk (st := s_put_exclusive_or) l_put_exclusive_or e_put_exclusive_or k_put_exclusive_or).binds (ps := ["machine", "x", "vx", "vy"]) fun _ _ _ _ _ _ us hl => match us, hl with | [_, _, _, _], _ => rfl,
    PySem.W.mg_of X G g_put_exclusive_or,
    fun_mk (st := s_put_sum) l_put_sum e_put_sum k_put_sum,
    (fun_mk (st := s_put_sum) l_put_sum e_put_sum k_put_sum).binds (ps := ["machine", "x", "vx", "vy"]) fun _ _ _ _ _ _ us hl => match us, hl with | [_, _, _, _], _ => rfl,
    PySem.W.mg_of X G g_put_sum,
    fun_mk (st := s_put_x_less_y) l_put_x_less_y e_put_x_less_y k_put_x_less_y,
    (fun_mk (st := s_put_x_less_y) l_put_x_less_y e_put_x_less_y k_put_x_less_y).binds (ps := ["machine", "x", "vx", "vy"]) fun _ _ _ _ _ _ us hl => match us, hl with | [_, _, _, _], _ => rfl,
    PySem.W.mg_of X G g_put_x_less_y,
    fun_mk (st := s_put_y_less_x) l_put_y_less_x e_put_y_less_x k_put_y_less_x,
    (fun_mk (st := s_put_y_less_x) l_put_y_less_x e_put_y_less_x k_put_y_less_x).binds (ps := ["machine", "x", "vx", "vy"]) fun _ _ _ _ _ _ us hl => match us, hl with | [_, _, _, _], _ => rfl,
    PySem.W.mg_of X G g_put_y_less_x,
    fun_mk (st := s_put_half) l_put_half e_put_half k_put_half,
    (fun_mk (st := s_put_half) l_put_half e_put_half k_put_half).binds (ps := ["machine", "x", "vx", "vy"]) fun _ _ _ _ _ _ us hl => match us, hl with | [_, _, _, _], _ => rfl,
    PySem.W.mg_of X G g_put_half,
    fun_mk (st := s_put_double) l_put_double e_put_double k_put_double,
    (fun_mk (st := s_put_double) l_put_double e_put_double k_put_double).binds (ps := ["machine", "x", "vx", "vy"]) fun _ _ _ _ _ _ us hl => match us, hl with | [_, _, _, _], _ => rfl,
    PySem.W.mg_of X G g_put_double,
    fun_mk (st := s_calculate) l_calculate e_calculate k_calculate,
    (fun_mk (st := s_calculate) l_calculate e_calculate k_calculate).binds (ps := ["machine", "x", "y", "n"]) fun _ _ _ _ _ _ us hl => match us, hl with | [_, _, _, _], _ => rfl,
    PySem.W.mg_of X G g_calculate,
    fun_mk (st := s_next_chance) l_next_chance e_next_chance k_next_chance,
    (fun_mk (st := s_next_chance) l_next_chance e_next_chance k_next_chance).binds (ps := ["state"]) fun _ _ _ _ _ _ us hl => match us, hl with | [_], _ => rfl,
    PySem.W.mg_of X G g_next_chance,
    fun_mk (st := s_screen_width) l_screen_width e_screen_width k_screen_width,
    (fun_mk (st := s_screen_width) l_screen_width e_screen_width k_screen_width).binds (ps := ["machine"]) fun _ _ _ _ _ _ us hl => match us, hl with | [_], _ => rfl,
    PySem.W.mg_of X G g_screen_width,
    fun_mk (st := s_darken) l_darken e_darken k_darken,
    (fun_mk (st := s_darken) l_darken e_darken k_darken).binds (ps := ["machine"]) fun _ _ _ _ _ _ us hl => match us, hl with | [_], _ => rfl,
    PySem.W.mg_of X G g_darken,
    fun_mk (st := s_make_small) l_make_small e_make_small k_make_small,
    (fun_mk (st := s_make_small) l_make_small e_make_small k_make_small).binds (ps := ["machine"]) fun _ _ _ _ _ _ us hl => match us, hl with | [_], _ => rfl,
    PySem.W.mg_of X G g_make_small,
    fun_mk (st := s_make_large) l_make_large e_make_large k_make_large,
    (fun_mk (st := s_make_large) l_make_large e_make_large k_make_large).binds (ps := ["machine"]) fun _ _ _ _ _ _ us hl => match us, hl with | [_], _ => rfl,
    PySem.W.mg_of X G g_make_large,
    fun_mk (st := s_move_down) l_move_down e_move_down k_move_down,
    (fun_mk (st := s_move_down) l_move_down e_move_down k_move_down).binds (ps := ["machine", "n"]) fun _ _ _ _ _ _ us hl => match us, hl with | [_, _], _ => rfl,
    PySem.W.mg_of X G g_move_down,
    fun_mk (st := s_move_right) l_move_right e_move_right k_move_right,
    (fun_mk (st := s_move_right) l_move_right e_move_right k_move_right).binds (ps := ["machine"]) fun _ _ _ _ _ _ us hl => match us, hl with | [_], _ => rfl,
    PySem.W.mg_of X G g_move_right,
    fun_mk (st := s_move_left) l_move_left e_move_left k_move_left,
    (fun_mk (st := s_move_left) l_move_left e_move_left k_move_left).binds (ps := ["machine"]) fun _ _ _ _ _ _ us hl => match us, hl with | [_], _ => rfl,
    PySem.W.mg_of X G g_move_left,
    fun_mk (st := s_lay_shape) l_lay_shape e_lay_shape k_lay_shape,
    (fun_mk (st := s_lay_shape) l_lay_shape e_lay_shape k_lay_shape).binds (ps := ["machine", "x", "y", "shape", "shape_width"]) fun _ _ _ _ _ _ us hl => match us, hl with | [_, _, _, _, _], _ => rfl,
    PySem.W.mg_of X G g_lay_shape,
    fun_mk (st := s_fit_points) l_fit_points e_fit_points k_fit_points,
    (fun_mk (st := s_fit_points) l_fit_points e_fit_points k_fit_points).binds (ps := ["points", "shape_width", "room"]) fun _ _ _ _ _ _ us hl => match us, hl with | [_, _, _], _ => rfl,
    PySem.W.mg_of X G g_fit_points,
    fun_mk (st := s_screen_bytes) l_screen_bytes e_screen_bytes k_screen_bytes,
    (fun_mk (st := s_screen_bytes) l_screen_bytes e_screen_bytes k_screen_bytes).binds (ps := ["machine"]) fun _ _ _ _ _ _ us hl => match us, hl with | [_], _ => rfl,
    PySem.W.mg_of X G g_screen_bytes,
    fun_mk (st := s_take_wait) l_take_wait e_take_wait k_take_wait,
    (fun_mk (st := s_take_wait) l_take_wait e_take_wait k_take_wait).binds (ps := ["machine", "x"]) fun _ _ _ _ _ _ us hl => match us, hl with | [_, _], _ => rfl,
    PySem.W.mg_of X G g_take_wait,
    fun_mk (st := s_take_key) l_take_key e_take_key k_take_key,
    (fun_mk (st := s_take_key) l_take_key e_take_key k_take_key).binds (ps := ["machine", "x"]) fun _ _ _ _ _ _ us hl => match us, hl with | [_, _], _ => rfl,
    PySem.W.mg_of X G g_take_key,
    fun_mk (st := s_set_wait) l_set_wait e_set_wait k_set_wait,
    (fun_mk (st := s_set_wait) l_set_wait e_set_wait k_set_wait).binds (ps := ["machine", "x"]) fun _ _ _ _ _ _ us hl => match us, hl with | [_, _], _ => rfl,
    PySem.W.mg_of X G g_set_wait,
    fun_mk (st := s_set_sound) l_set_sound e_set_sound k_set_sound,
    (fun_mk (st := s_set_sound) l_set_sound e_set_sound k_set_sound).binds (ps := ["machine", "x"]) fun _ _ _ _ _ _ us hl => match us, hl with | [_, _], _ => rfl,
    PySem.W.mg_of X G g_set_sound,
    fun_mk (st := s_move_i_on) l_move_i_on e_move_i_on k_move_i_on,
    (fun_mk (st := s_move_i_on) l_move_i_on e_move_i_on k_move_i_on).binds (ps := ["machine", "x"]) fun _ _ _ _ _ _ us hl => match us, hl with | [_, _], _ => rfl,
    PySem.W.mg_of X G g_move_i_on,
    fun_mk (st := s_point_at_digit) l_point_at_digit e_point_at_digit k_point_at_digit,
    (fun_mk (st := s_point_at_digit) l_point_at_digit e_point_at_digit k_point_at_digit).binds (ps := ["machine", "x"]) fun _ _ _ _ _ _ us hl => match us, hl with | [_, _], _ => rfl,
    PySem.W.mg_of X G g_point_at_digit,
    fun_mk (st := s_point_at_large_digit) l_point_at_large_digit e_point_at_large_digit k_point_at_large_digit,
    (fun_mk (st := s_point_at_large_digit) l_point_at_large_digit e_point_at_large_digit k_point_at_large_digit).binds (ps := ["machine", "x"]) fun _ _ _ _ _ _ us hl => match us, hl with | [_, _], _ => rfl,
    PySem.W.mg_of X G g_point_at_large_digit,
    fun_mk (st := s_write_decimal) l_write_decimal e_write_decimal k_write_decimal,
    (fun_mk (st := s_write_decimal) l_write_decimal e_write_decimal k_write_decimal).binds (ps := ["machine", "x"]) fun _ _ _ _ _ _ us hl => match us, hl with | [_, _], _ => rfl,
    PySem.W.mg_of X G g_write_decimal,
    fun_mk (st := s_write_registers) l_write_registers e_write_registers k_write_registers,
    (fun_mk (st := s_write_registers) l_write_registers e_write_registers k_write_registers).binds (ps := ["machine", "x"]) fun _ _ _ _ _ _ us hl => match us, hl with | [_, _], _ => rfl,
    PySem.W.mg_of X G g_write_registers,
    fun_mk (st := s_read_registers) l_read_registers e_read_registers k_read_registers,
    (fun_mk (st := s_read_registers) l_read_registers e_read_registers k_read_registers).binds (ps := ["machine", "x"]) fun _ _ _ _ _ _ us hl => match us, hl with | [_, _], _ => rfl,
    PySem.W.mg_of X G g_read_registers,
    fun_mk (st := s_keep_aside) l_keep_aside e_keep_aside k_keep_aside,
    (fun_mk (st := s_keep_aside) l_keep_aside e_keep_aside k_keep_aside).binds (ps := ["machine", "x"]) fun _ _ _ _ _ _ us hl => match us, hl with | [_, _], _ => rfl,
    PySem.W.mg_of X G g_keep_aside,
    fun_mk (st := s_take_from_aside) l_take_from_aside e_take_from_aside k_take_from_aside,
    (fun_mk (st := s_take_from_aside) l_take_from_aside e_take_from_aside k_take_from_aside).binds (ps := ["machine", "x"]) fun _ _ _ _ _ _ us hl => match us, hl with | [_, _], _ => rfl,
    PySem.W.mg_of X G g_take_from_aside,
    fun_mk (st := s_transfer) l_transfer e_transfer k_transfer,
    (fun_mk (st := s_transfer) l_transfer e_transfer k_transfer).binds (ps := ["machine", "x", "nn"]) fun _ _ _ _ _ _ us hl => match us, hl with | [_, _, _], _ => rfl,
    PySem.W.mg_of X G g_transfer,
    fun_mk (st := s_digit_x) l_digit_x e_digit_x k_digit_x,
    (fun_mk (st := s_digit_x) l_digit_x e_digit_x k_digit_x).binds (ps := ["word"]) fun _ _ _ _ _ _ us hl => match us, hl with | [_], _ => rfl,
    PySem.W.mg_of X G g_digit_x,
    fun_mk (st := s_digit_y) l_digit_y e_digit_y k_digit_y,
    (fun_mk (st := s_digit_y) l_digit_y e_digit_y k_digit_y).binds (ps := ["word"]) fun _ _ _ _ _ _ us hl => match us, hl with | [_], _ => rfl,
    PySem.W.mg_of X G g_digit_y,
    fun_mk (st := s_value_x) l_value_x e_value_x k_value_x,
    (fun_mk (st := s_value_x) l_value_x e_value_x k_value_x).binds (ps := ["machine", "word"]) fun _ _ _ _ _ _ us hl => match us, hl with | [_, _], _ => rfl,
    PySem.W.mg_of X G g_value_x,
    fun_mk (st := s_value_y) l_value_y e_value_y k_value_y,
    (fun_mk (st := s_value_y) l_value_y e_value_y k_value_y).binds (ps := ["machine", "word"]) fun _ _ _ _ _ _ us hl => match us, hl with | [_, _], _ => rfl,
    PySem.W.mg_of X G g_value_y,
    fun_mk (st := s_go_to) l_go_to e_go_to k_go_to,
    (fun_mk (st := s_go_to) l_go_to e_go_to k_go_to).binds (ps := ["machine", "place"]) fun _ _ _ _ _ _ us hl => match us, hl with | [_, _], _ => rfl,
    PySem.W.mg_of X G g_go_to,
    fun_mk (st := s_pass_over_if) l_pass_over_if e_pass_over_if k_pass_over_if,
    (fun_mk (st := s_pass_over_if) l_pass_over_if e_pass_over_if k_pass_over_if).binds (ps := ["machine", "wanted"]) fun _ _ _ _ _ _ us hl => match us, hl with | [_, _], _ => rfl,
    PySem.W.mg_of X G g_pass_over_if,
    fun_mk (st := s_come_back) l_come_back e_come_back k_come_back,
    (fun_mk (st := s_come_back) l_come_back e_come_back k_come_back).binds (ps := ["machine"]) fun _ _ _ _ _ _ us hl => match us, hl with | [_], _ => rfl,
    PySem.W.mg_of X G g_come_back,
    fun_mk (st := s_change_screen) l_change_screen e_change_screen k_change_screen,
    (fun_mk (st := s_change_screen) l_change_screen e_change_screen k_change_screen).binds (ps := ["machine", "word"]) fun _ _ _ _ _ _ us hl => match us, hl with | [_, _], _ => rfl,
    PySem.W.mg_of X G g_change_screen,
    fun_mk (st := s_do_without_registers) l_do_without_registers e_do_without_registers k_do_without_registers,
    (fun_mk (st := s_do_without_registers) l_do_without_registers e_do_without_registers k_do_without_registers).binds (ps := ["machine", "word"]) fun _ _ _ _ _ _ us hl => match us, hl with | [_, _], _ => rfl,
    PySem.W.mg_of X G g_do_without_registers,
    fun_mk (st := s_jump) l_jump e_jump k_jump,
    (fun_mk (st := s_jump) l_jump e_jump k_jump).binds (ps := ["machine", "word"]) fun _ _ _ _ _ _ us hl => match us, hl with | [_, _], _ => rfl,
    PySem.W.mg_of X G g_jump,
    fun_mk (st := s_jump_and_come_back) l_jump_and_come_back e_jump_and_come_back k_jump_and_come_back,
    (fun_mk (st := s_jump_and_come_back) l_jump_and_come_back e_jump_and_come_back k_jump_and_come_back).binds (ps := ["machine", "word"]) fun _ _ _ _ _ _ us hl => match us, hl with | [_, _], _ => rfl,
    PySem.W.mg_of X G g_jump_and_come_back,
    fun_mk (st := s_pass_if_number) l_pass_if_number e_pass_if_number k_pass_if_number,
    (fun_mk (st := s_pass_if_number) l_pass_if_number e_pass_if_number k_pass_if_number).binds (ps := ["machine", "word"]) fun _ _ _ _ _ _ us hl => match us, hl with | [_, _], _ => rfl,
    PySem.W.mg_of X G g_pass_if_number,
    fun_mk (st := s_pass_if_not_number) l_pass_if_not_number e_pass_if_not_number k_pass_if_not_number,
    (fun_mk (st := s_pass_if_not_number) l_pass_if_not_number e_pass_if_not_number k_pass_if_not_number).binds (ps := ["machine", "word"]) fun _ _ _ _ _ _ us hl => match us, hl with | [_, _], _ => rfl,
    PySem.W.mg_of X G g_pass_if_not_number,
    fun_mk (st := s_pass_if_equal) l_pass_if_equal e_pass_if_equal k_pass_if_equal,
    (fun_mk (st := s_pass_if_equal) l_pass_if_equal e_pass_if_equal k_pass_if_equal).binds (ps := ["machine", "word"]) fun _ _ _ _ _ _ us hl => match us, hl with | [_, _], _ => rfl,
    PySem.W.mg_of X G g_pass_if_equal,
    fun_mk (st := s_put_number) l_put_number e_put_number k_put_number,
    (fun_mk (st := s_put_number) l_put_number e_put_number k_put_number).binds (ps := ["machine", "word"]) fun _ _ _ _ _ _ us hl => match us, hl with | [_, _], _ => rfl,
    PySem.W.mg_of X G g_put_number,
    fun_mk (st := s_add_number) l_add_number e_add_number k_add_number,
    (fun_mk (st := s_add_number) l_add_number e_add_number k_add_number).binds (ps := ["machine", "word"]) fun _ _ _ _ _ _ us hl => match us, hl with | [_, _], _ => rfl,
    PySem.W.mg_of X G g_add_number,
    fun_mk (st := s_do_calculation) l_do_calculation e_do_calculation k_do_calculation,
    (fun_mk (st := s_do_calculation) l_do_calculation e_do_calculation k_do_calculation).binds (ps := ["machine", "word"]) fun _ _ _ _ _ _ us hl => match us, hl with | [_, _], _ => rfl,
    PySem.W.mg_of X G g_do_calculation,
    fun_mk (st := s_pass_if_unequal) l_pass_if_unequal e_pass_if_unequal k_pass_if_unequal,
    (fun_mk (st := s_pass_if_unequal) l_pass_if_unequal e_pass_if_unequal k_pass_if_unequal).binds (ps := ["machine", "word"]) fun _ _ _ _ _ _ us hl => match us, hl with | [_, _], _ => rfl,
    PySem.W.mg_of X G g_pass_if_unequal,
    fun_mk (st := s_put_i) l_put_i e_put_i k_put_i,
    (fun_mk (st := s_put_i) l_put_i e_put_i k_put_i).binds (ps := ["machine", "word"]) fun _ _ _ _ _ _ us hl => match us, hl with | [_, _], _ => rfl,
    PySem.W.mg_of X G g_put_i,
    fun_mk (st := s_jump_further) l_jump_further e_jump_further k_jump_further,
    (fun_mk (st := s_jump_further) l_jump_further e_jump_further k_jump_further).binds (ps := ["machine", "word"]) fun _ _ _ _ _ _ us hl => match us, hl with | [_, _], _ => rfl,
    PySem.W.mg_of X G g_jump_further,
    fun_mk (st := s_take_chance) l_take_chance e_take_chance k_take_chance,
    (fun_mk (st := s_take_chance) l_take_chance e_take_chance k_take_chance).binds (ps := ["machine", "word"]) fun _ _ _ _ _ _ us hl => match us, hl with | [_, _], _ => rfl,
    PySem.W.mg_of X G g_take_chance,
    fun_mk (st := s_draw) l_draw e_draw k_draw,
    (fun_mk (st := s_draw) l_draw e_draw k_draw).binds (ps := ["machine", "word"]) fun _ _ _ _ _ _ us hl => match us, hl with | [_, _], _ => rfl,
    PySem.W.mg_of X G g_draw,
    fun_mk (st := s_narrow_shape) l_narrow_shape e_narrow_shape k_narrow_shape,
    (fun_mk (st := s_narrow_shape) l_narrow_shape e_narrow_shape k_narrow_shape).binds (ps := ["machine", "row_count"]) fun _ _ _ _ _ _ us hl => match us, hl with | [_, _], _ => rfl,
    PySem.W.mg_of X G g_narrow_shape,
    fun_mk (st := s_wide_shape) l_wide_shape e_wide_shape k_wide_shape,
    (fun_mk (st := s_wide_shape) l_wide_shape e_wide_shape k_wide_shape).binds (ps := ["machine"]) fun _ _ _ _ _ _ us hl => match us, hl with | [_], _ => rfl,
    PySem.W.mg_of X G g_wide_shape,
    fun_mk (st := s_word_at) l_word_at e_word_at k_word_at,
    (fun_mk (st := s_word_at) l_word_at e_word_at k_word_at).binds (ps := ["machine", "place"]) fun _ _ _ _ _ _ us hl => match us, hl with | [_, _], _ => rfl,
    PySem.W.mg_of X G g_word_at,
    fun_mk (st := s_pass_by_key) l_pass_by_key e_pass_by_key k_pass_by_key,
    (fun_mk (st := s_pass_by_key) l_pass_by_key e_pass_by_key k_pass_by_key).binds (ps := ["machine", "word"]) fun _ _ _ _ _ _ us hl => match us, hl with | [_, _], _ => rfl,
    PySem.W.mg_of X G g_pass_by_key,
    fun_mk (st := s_do_transfer) l_do_transfer e_do_transfer k_do_transfer,
    (fun_mk (st := s_do_transfer) l_do_transfer e_do_transfer k_do_transfer).binds (ps := ["machine", "word"]) fun _ _ _ _ _ _ us hl => match us, hl with | [_, _], _ => rfl,
    PySem.W.mg_of X G g_do_transfer,
    fun_mk (st := s_do_instruction) l_do_instruction e_do_instruction k_do_instruction,
    (fun_mk (st := s_do_instruction) l_do_instruction e_do_instruction k_do_instruction).binds (ps := ["machine"]) fun _ _ _ _ _ _ us hl => match us, hl with | [_], _ => rfl,
    PySem.W.mg_of X G g_do_instruction,
    fun_mk (st := s_c8_clear) l_c8_clear e_c8_clear k_c8_clear,
    (fun_mk (st := s_c8_clear) l_c8_clear e_c8_clear k_c8_clear).binds (ps := ["machine", "seed"]) fun _ _ _ _ _ _ us hl => match us, hl with | [_, _], _ => rfl,
    PySem.W.mg_of X G g_c8_clear,
    fun_mk (st := s_c8_load) l_c8_load e_c8_load k_c8_load,
    (fun_mk (st := s_c8_load) l_c8_load e_c8_load k_c8_load).binds (ps := ["machine", "at", "data"]) fun _ _ _ _ _ _ us hl => match us, hl with | [_, _, _], _ => rfl,
    PySem.W.mg_of X G g_c8_load,
    fun_mk (st := s_c8_look) l_c8_look e_c8_look k_c8_look,
    (fun_mk (st := s_c8_look) l_c8_look e_c8_look k_c8_look).binds (ps := ["machine", "at", "n"]) fun _ _ _ _ _ _ us hl => match us, hl with | [_, _, _], _ => rfl,
    PySem.W.mg_of X G g_c8_look,
    fun_mk (st := s_is_in_memory) l_is_in_memory e_is_in_memory k_is_in_memory,
    (fun_mk (st := s_is_in_memory) l_is_in_memory e_is_in_memory k_is_in_memory).binds (ps := ["at", "n"]) fun _ _ _ _ _ _ us hl => match us, hl with | [_, _], _ => rfl,
    PySem.W.mg_of X G g_is_in_memory,
    fun_mk (st := s_c8_key) l_c8_key e_c8_key k_c8_key,
    (fun_mk (st := s_c8_key) l_c8_key e_c8_key k_c8_key).binds (ps := ["machine", "k", "down"]) fun _ _ _ _ _ _ us hl => match us, hl with | [_, _, _], _ => rfl,
    PySem.W.mg_of X G g_c8_key,
    fun_mk (st := s_c8_tick) l_c8_tick e_c8_tick k_c8_tick,
    (fun_mk (st := s_c8_tick) l_c8_tick e_c8_tick k_c8_tick).binds (ps := ["machine"]) fun _ _ _ _ _ _ us hl => match us, hl with | [_], _ => rfl,
    PySem.W.mg_of X G g_c8_tick,
    fun_mk (st := s_one_less) l_one_less e_one_less k_one_less,
    (fun_mk (st := s_one_less) l_one_less e_one_less k_one_less).binds (ps := ["timer"]) fun _ _ _ _ _ _ us hl => match us, hl with | [_], _ => rfl,
    PySem.W.mg_of X G g_one_less,
    fun_mk (st := s_c8_run) l_c8_run e_c8_run k_c8_run,
    (fun_mk (st := s_c8_run) l_c8_run e_c8_run k_c8_run).binds (ps := ["machine", "n"]) fun _ _ _ _ _ _ us hl => match us, hl with | [_, _], _ => rfl,
    PySem.W.mg_of X G g_c8_run,
    fun_mk (st := s_c8_why) l_c8_why e_c8_why k_c8_why,
    (fun_mk (st := s_c8_why) l_c8_why e_c8_why k_c8_why).binds (ps := ["machine"]) fun _ _ _ _ _ _ us hl => match us, hl with | [_], _ => rfl,
    PySem.W.mg_of X G g_c8_why,
    fun_mk (st := s_c8_get) l_c8_get e_c8_get k_c8_get,
    (fun_mk (st := s_c8_get) l_c8_get e_c8_get k_c8_get).binds (ps := ["machine", "which"]) fun _ _ _ _ _ _ us hl => match us, hl with | [_, _], _ => rfl,
    PySem.W.mg_of X G g_c8_get,
    fun_mk (st := s_c8_set) l_c8_set e_c8_set k_c8_set,
    (fun_mk (st := s_c8_set) l_c8_set e_c8_set k_c8_set).binds (ps := ["machine", "which", "value"]) fun _ _ _ _ _ _ us hl => match us, hl with | [_, _, _], _ => rfl,
    PySem.W.mg_of X G g_c8_set,
    fun_mk (st := s_c8_screen) l_c8_screen e_c8_screen k_c8_screen,
    (fun_mk (st := s_c8_screen) l_c8_screen e_c8_screen k_c8_screen).binds (ps := ["machine"]) fun _ _ _ _ _ _ us hl => match us, hl with | [_], _ => rfl,
    PySem.W.mg_of X G g_c8_screen,
    fun_mk (st := s_Reader___init__) l_Reader___init__ e_Reader___init__ k_Reader___init__,
    (fun_mk (st := s_Reader___init__) l_Reader___init__ e_Reader___init__ k_Reader___init__).binds (ps := ["self", "numbers"]) fun _ _ _ _ _ _ us hl => match us, hl with | [_, _], _ => rfl,
    ⟨m_Reader___init__, i_Reader___init__, k_Reader___init__⟩,
    fun_mk (st := s_Reader_has_more) l_Reader_has_more e_Reader_has_more k_Reader_has_more,
    (fun_mk (st := s_Reader_has_more) l_Reader_has_more e_Reader_has_more k_Reader_has_more).binds (ps := ["self"]) fun _ _ _ _ _ _ us hl => match us, hl with | [_], _ => rfl,
    ⟨m_Reader_has_more, i_Reader_has_more, k_Reader_has_more⟩,
    fun_mk (st := s_Reader_take) l_Reader_take e_Reader_take k_Reader_take,
    (fun_mk (st := s_Reader_take) l_Reader_take e_Reader_take k_Reader_take).binds (ps := ["self"]) fun _ _ _ _ _ _ us hl => match us, hl with | [_], _ => rfl,
    ⟨m_Reader_take, i_Reader_take, k_Reader_take⟩,
    fun_mk (st := s_Reader_take_row) l_Reader_take_row e_Reader_take_row k_Reader_take_row,
    (fun_mk (st := s_Reader_take_row) l_Reader_take_row e_Reader_take_row k_Reader_take_row).binds (ps := ["self"]) fun _ _ _ _ _ _ us hl => match us, hl with | [_], _ => rfl,
    ⟨m_Reader_take_row, i_Reader_take_row, k_Reader_take_row⟩,
    fun_mk (st := s_answers) l_answers e_answers k_answers,
    (fun_mk (st := s_answers) l_answers e_answers k_answers).binds (ps := ["calls"]) fun _ _ _ _ _ _ us hl => match us, hl with | [_], _ => rfl,
    PySem.W.mg_of X G g_answers,
    fun_mk (st := s_answer_call) l_answer_call e_answer_call k_answer_call,
    (fun_mk (st := s_answer_call) l_answer_call e_answer_call k_answer_call).binds (ps := ["machine", "reader"]) fun _ _ _ _ _ _ us hl => match us, hl with | [_, _], _ => rfl,
    PySem.W.mg_of X G g_answer_call⟩
  exact ⟨A.d_answers, fun s us hu => match us, hu with | [_], _ => .of_eq rfl, fun base _ _ => ok_answers T (ok_answer_call T)⟩
end Sg
/-! the names under which the head would lay its twins: they stand here already, so that it lays none (each would be a proof as long as the heap squared) -/
namespace PySem.W.Fast
def tw10914720345834928331 := 0
def tw8795222159237529673 := 0
def tw10121148185219623923 := 0
def tw8931179596103197756 := 0
def tw10312749205887490175 := 0
def tw10752888588545635637 := 0
def tw18432326525848679807 := 0
def tw6838900605241903194 := 0
def tw8891986676061682180 := 0
def tw6361877284471416688 := 0
def tw17594627680041463945 := 0
def tw14043007946420771475 := 0
def tw17466164285975028243 := 0
def tw2774797824137600235 := 0
def tw11482537471467369686 := 0
def tw17538710025860198996 := 0
def tw9848866726488911247 := 0
def tw13998170035373032716 := 0
def tw3634845016220219946 := 0
def tw4742447172606469020 := 0
def tw11416902205675524342 := 0
def tw14669304170475158977 := 0
def tw11535330005114512042 := 0
def tw14221558478305917320 := 0
def tw747758764485157814 := 0
def tw15070417001355547635 := 0
def tw10065607482549408831 := 0
def tw15467432399816454261 := 0
def tw17386884996272497253 := 0
def tw11650724494078080876 := 0
def tw12980801956211863652 := 0
def tw1698918840802557071 := 0
def tw18172858200584866732 := 0
def tw14337348443679186602 := 0
def tw15514013057049073720 := 0
def tw1822914874055047501 := 0
def tw4885801738918041338 := 0
def tw4667782949074220894 := 0
def tw17443639033901053275 := 0
def tw17170869565580817605 := 0
def tw4767305294475376575 := 0
def tw6896127217212214893 := 0
def tw11343441277830644765 := 0
def tw9953606059819143633 := 0
def tw6854342344875143657 := 0
def tw15683596346638009259 := 0
def tw15199152182157426004 := 0
def tw8177824314046650135 := 0
def tw11675844916424423886 := 0
def tw2603845750610398804 := 0
def tw7276855470002716636 := 0
def tw10919595510290491395 := 0
def tw11135541645032463451 := 0
def tw2624761596762881501 := 0
def tw12579793003610005937 := 0
def tw2118697732143204959 := 0
def tw7847018439115236511 := 0
def tw15747904506544059407 := 0
def tw6209215976784330852 := 0
def tw9264154941653460707 := 0
def tw1862147663539759015 := 0
def tw7074938592598361135 := 0
def tw240605156154385917 := 0
def tw9319047988546652810 := 0
def tw17296582879526448659 := 0
def tw13684829500864828748 := 0
def tw2391207224815712600 := 0
def tw11172325404835476648 := 0
def tw16438177583738469670 := 0
def tw10922137953260305874 := 0
def tw17219053453747362527 := 0
def tw16537883888014625032 := 0
def tw13630388846736714504 := 0
def tw3596816906774253609 := 0
def tw11760795789944185354 := 0
def tw1495557097825729472 := 0
def tw406881687320224370 := 0
def tw11175941734543932852 := 0
def tw16135905167596981919 := 0
def tw11629595252747976090 := 0
def tw8276793992192364527 := 0
def tw14909822480998718798 := 0
def tw8852832801661339966 := 0
def tw10606597702516367396 := 0
def tw11435456949201677995 := 0
def tw6666248991082908734 := 0
def tw8198872455034158579 := 0
def tw3398863707761119098 := 0
def tw15265951754220347814 := 0
def tw12971678896010511531 := 0
def tw5808074677866496389 := 0
def tw7881018348647180094 := 0
def tw6339491007033423342 := 0
def tw10845318165207100431 := 0
def tw8482235161072221683 := 0
def tw12242384295163111100 := 0
def tw7483306363261695626 := 0
def tw1007228483353501961 := 0
def tw3738982226562468849 := 0
def tw1228067575236886218 := 0
def tw15234495809276876735 := 0
def tw15187456219133916409 := 0
def tw14478779737392910930 := 0
def tw15903033835839361957 := 0
def tw10209042488927052478 := 0
def tw3394100046868924969 := 0
def tw12896532417979842135 := 0
def tw1439555407369203362 := 0
def tw535670318769125478 := 0
def tw11173767602995628362 := 0
def tw4281770957114270991 := 0
def tw5079868337344277260 := 0
def tw17577214969206327657 := 0
def tw8848407631978609738 := 0
def tw13178605896711611998 := 0
def tw832762248243834617 := 0
def tw11738498104330625617 := 0
def tw10335182399543296144 := 0
def tw3855980054322030280 := 0
def tw15793141835716904640 := 0
def tw15015564424431431148 := 0
def tw10922144452393174371 := 0
def tw6591644751727509690 := 0
def tw16149595627382772407 := 0
def tw12707369387440323292 := 0
def tw3521961890477823266 := 0
def tw8367890496635412659 := 0
def tw5794568869276856536 := 0
def tw13455866538070477858 := 0
def tw8654458640928072923 := 0
def tw12604602115642064382 := 0
def tw4124806903443544024 := 0
def tw16536933813670519803 := 0
def tw12238925347677627281 := 0
def tw7777100767314842153 := 0
def tw13218656755763869634 := 0
def tw2169016718481333152 := 0
def tw17434204482982695666 := 0
def tw16633781375302473460 := 0
def tw10496946891879293578 := 0
def tw8123231965845908119 := 0
def tw2515887869482308806 := 0
def tw12373194472121337459 := 0
def tw7201559268736526123 := 0
def tw6196977874423002688 := 0
def tw153493880965947457 := 0
def tw18029992919693722617 := 0
def tw17312825589799967483 := 0
def tw14882231140727708065 := 0
def tw1280717770178841363 := 0
def tw8548886744519343789 := 0
def tw10735157663728573150 := 0
def tw10447845393554842610 := 0
def tw11697162674947208894 := 0
def tw994788291953972325 := 0
def tw12642556313866422808 := 0
def tw902777518511575434 := 0
def tw4674004198428317682 := 0
def tw1693121155742664064 := 0
def tw12929096971465719058 := 0
def tw4796011986252997281 := 0
def tw16783650413631104121 := 0
def tw17981365482861418251 := 0
def tw7267486084321055973 := 0
def tw4596224802567376707 := 0
def tw15408676565154653569 := 0
def tw13811555113224408397 := 0
def tw16307163996407116149 := 0
def tw5364256754258344242 := 0
def tw13356272743207937350 := 0
def tw13937056322271734819 := 0
def tw11408644694598610543 := 0
def tw11977052958079721790 := 0
def tw2422694225806007844 := 0
def tw18254140766520138749 := 0
def tw1721385410681324375 := 0
def tw14348057321333118155 := 0
def tw15090283936372259112 := 0
def tw882387859669186603 := 0
def tw2792168865431664996 := 0
def tw10335908256175330265 := 0
def tw480592639434109255 := 0
def tw4410786507842337424 := 0
def tw1472146975993941546 := 0
def tw17220090369881599914 := 0
def tw18397247748374836770 := 0
def tw18045244107228557073 := 0
def tw7958046243184107644 := 0
def tw4756409383183421922 := 0
def tw10350980092178726445 := 0
def tw3738616881290743537 := 0
def tw10065297045562740641 := 0
def tw5289365152493322262 := 0
def tw5617375895742714312 := 0
def tw11821721015247261377 := 0
def tw3815191916597540559 := 0
def tw12518013279186783527 := 0
def tw11178922595796625471 := 0
def tw9831172140117469924 := 0
def tw9547183061506066705 := 0
def tw14227315215816866676 := 0
def tw9395586905010402101 := 0
def tw3889398074777169761 := 0
def tw215559233696068174 := 0
def tw12136880536162986314 := 0
def tw3156121140382913105 := 0
def tw14693616705872022293 := 0
def tw9972138694324558546 := 0
def tw6710820457980729795 := 0
def tw11228330120302261255 := 0
def tw17106461348646965204 := 0
def tw11605842941257592121 := 0
def tw2305080365779216221 := 0
def tw12134330366961043997 := 0
def tw17098610520066193883 := 0
def tw16290658838895041533 := 0
def tw12480207949170741326 := 0
def tw8625162202085309900 := 0
def tw15693119227885152552 := 0
def tw13045102264202057470 := 0
def tw6200580864821665779 := 0
def tw12783648880992081089 := 0
def tw8074018752628489903 := 0
def tw946429536822182509 := 0
def tw15278228298469623907 := 0
def tw6351774586436484269 := 0
def tw233615828470261217 := 0
def tw919840945187001440 := 0
def tw12241954859655473834 := 0
def tw3881272310489162783 := 0
def tw17871417878660771837 := 0
def tw18199885975045969610 := 0
def tw11598111091081464575 := 0
def tw16601336800629450507 := 0
def tw10495005388452671607 := 0
def tw6663509746327677171 := 0
def tw6589618007547487394 := 0
def tw2970010945063924814 := 0
def tw10316502784018976140 := 0
def tw15505481914315196846 := 0
def tw13259107883183051393 := 0
def tw9642359325449441508 := 0
def tw9587601150882668388 := 0
def tw9121553383645355537 := 0
def tw2297550723654027373 := 0
def tw5941030261684727282 := 0
def tw14994123793241700764 := 0
def tw4982715318900541348 := 0
def tw13311449039162598322 := 0
def tw10223508394536422195 := 0
def tw14607323556928923290 := 0
def tw16144821972160996787 := 0
def tw17002493826899537192 := 0
def tw4601604747327138286 := 0
def tw10141755413865375950 := 0
def tw13314913416192049080 := 0
def tw12255580726946156559 := 0
def tw14320194839655455642 := 0
def tw17472845565011397771 := 0
def tw4990821586359977521 := 0
def tw1535257489014365011 := 0
def tw14356602148328060357 := 0
def tw10820112130375164150 := 0
def tw7560695289748166139 := 0
def tw18012791655965932501 := 0
def tw15224893325365056740 := 0
def tw8882996561543999384 := 0
def tw7553711092047822379 := 0
def tw688757114090051162 := 0
def tw3858413035692082226 := 0
def tw5784451414878234758 := 0
def tw3680840972809719923 := 0
def tw17765907543879579066 := 0
def tw13638124706635827718 := 0
def tw6949232712519334052 := 0
def tw15990572093881353899 := 0
def tw7962665284132884682 := 0
def tw13220958473306879355 := 0
def tw10548338785430787892 := 0
def tw17345670748515270163 := 0
def tw16070765669892392659 := 0
def tw2671169198082604885 := 0
def tw16418282832800237076 := 0
def tw1491611589283747003 := 0
def tw2757460661780799362 := 0
def tw5200129441484943623 := 0
def tw13991505279209622393 := 0
def tw10038897054800641244 := 0
def tw3072117121426046703 := 0
def tw4012586394837242911 := 0
def tw2756363680182745266 := 0
def tw8427793674028687291 := 0
def tw3244271122915552088 := 0
def tw2103682345743200727 := 0
def tw15089307778078957091 := 0
def tw8954391633416367564 := 0
def tw10803639890974112856 := 0
def tw3109554731860657179 := 0
def tw6544629947849737122 := 0
def tw12173538946792740626 := 0
def tw8411301151911084033 := 0
def tw8103242734597821256 := 0
def tw3511522308944772917 := 0
def tw279926049301598399 := 0
def tw7137676977725990842 := 0
def tw16123946038231193194 := 0
def tw9557407307670588544 := 0
def tw15772065066183924256 := 0
def tw14501957022287248335 := 0
def tw1403276887832955884 := 0
def tw8580568716383576952 := 0
def tw12967300396354423522 := 0
def tw7978221453541193655 := 0
def tw6927243068947224702 := 0
def tw13482864710926272099 := 0
def tw12428599245000239124 := 0
def tw12028427511757470561 := 0
def tw10677319638306076266 := 0
def tw15439698827631279444 := 0
def tw8366541921244419702 := 0
def tw11547836463066772761 := 0
def tw8242193534691579632 := 0
def tw16288972319012480097 := 0
def tw8910769827853312758 := 0
def tw15948611666761885760 := 0
def tw13021099395265162863 := 0
def tw18232828596259548129 := 0
def tw5814526405153169773 := 0
def tw15804535673005148318 := 0
def tw16893609406618272931 := 0
def tw17047513541719328198 := 0
def tw12675481651115666431 := 0
def tw243395437790503314 := 0
def tw1596188197405514426 := 0
def tw13277460055924837321 := 0
def tw11623566226895519474 := 0
def tw12852213251877289191 := 0
def tw10626135875243866308 := 0
def tw4313085785533037385 := 0
def tw5588590338186124501 := 0
def tw16123390833631681147 := 0
def tw5922425323775320293 := 0
def tw1666499003093831470 := 0
def tw14693750209368915956 := 0
def tw11170885893803009558 := 0
def tw13525799816857359664 := 0
def tw17871728951751040571 := 0
def tw3772695288467550910 := 0
def tw11025178437195318349 := 0
def tw312092456910708641 := 0
def tw7000308225986564368 := 0
def tw9688784514188962298 := 0
def tw11499404751010111389 := 0
def tw78168204296181073 := 0
def tw710498899301010061 := 0
def tw14566427608130479178 := 0
def tw13128546228998865579 := 0
def tw9147971172736336296 := 0
def tw1943485233291555693 := 0
def tw8773668782069216728 := 0
def tw4296855411572409820 := 0
def tw11774722648604055063 := 0
def tw488817058144750158 := 0
def tw8756343248616232649 := 0
def tw8098503305417184869 := 0
def tw7414389212610685566 := 0
def tw1080926334065485993 := 0
def tw16905796854778808857 := 0
def tw2381584324362642396 := 0
def tw10250486420788685634 := 0
def tw6672826422066151474 := 0
def tw6286543468969778149 := 0
def tw11012436576126403626 := 0
def tw5506141790231370684 := 0
def tw604888751246627074 := 0
def tw1514304144229099949 := 0
def tw10106568716595394474 := 0
def tw17166705644791093529 := 0
def tw13458680676627217154 := 0
def tw8086053521759704742 := 0
def tw15053273097650658207 := 0
def tw8617961087799954598 := 0
def tw16383661380005551603 := 0
def tw2973581526683956948 := 0
def tw10238001852666895720 := 0
def tw12895483883418494460 := 0
def tw6586840279708881853 := 0
def tw4360927766109096367 := 0
def tw14603015919589196854 := 0
def tw13309606070985894061 := 0
def tw1652818054777293655 := 0
def tw265350046266127085 := 0
def tw4013471138981551948 := 0
def tw11236407232336988079 := 0
def tw2519379654428445944 := 0
def tw15942281928142397556 := 0
def tw8024026486992056464 := 0
def tw4310701070880088097 := 0
def tw15968225942369291900 := 0
def tw2557165698630771402 := 0
def tw1815802025715253965 := 0
def tw7642819223631130296 := 0
def tw10735530059135282541 := 0
def tw10295595291648276966 := 0
def tw13281059433293144525 := 0
def tw14039799278748392426 := 0
def tw2510812108880732701 := 0
def tw1595527561548432516 := 0
def tw16744059144687100707 := 0
def tw10463008878993442964 := 0
def tw1761782446769878952 := 0
def tw4908402715477353727 := 0
def tw12073586121297236953 := 0
def tw8260788849132296111 := 0
def tw13339924602974905511 := 0
def tw15538013445213602776 := 0
def tw11489779334474913876 := 0
def tw8380483558103258435 := 0
def tw6326558460816727267 := 0
def tw4910328954211906311 := 0
def tw2575446811315427637 := 0
def tw10450454881939344707 := 0
def tw1208567673216277087 := 0
def tw3723011742065024713 := 0
def tw17436211255482154587 := 0
def tw3941058399856144763 := 0
def tw3762850025086627148 := 0
def tw16175151733284608496 := 0
def tw8040833605046117765 := 0
def tw1859751520520912415 := 0
def tw17583776511083058824 := 0
def tw17260462243411618968 := 0
def tw7874978427966314927 := 0
def tw6734641994503133435 := 0
def tw3042100079024350595 := 0
def tw11176262301547680169 := 0
def tw5788162518990026487 := 0
def tw5599573765972960647 := 0
def tw6854812969553738210 := 0
def tw5867673955909898494 := 0
def tw17799284599708585394 := 0
def tw17384612380039724423 := 0
def tw13852756275652577251 := 0
def tw16397631935363671166 := 0
def tw16592642094457365098 := 0
def tw4012302351965762098 := 0
def tw8394559867707816150 := 0
def tw3863511239405290033 := 0
def tw7876586130020383792 := 0
def tw12441522591806836366 := 0
def tw16555824770741454492 := 0
def tw18037033809283365218 := 0
def tw11448036636226871400 := 0
def tw12747607883443018175 := 0
def tw17458736901534671618 := 0
def tw2496566190892910258 := 0
def tw1065668239449692610 := 0
def tw7398297804182352222 := 0
def tw2557596636535694981 := 0
def tw17072483753048681651 := 0
def tw5265648875934364213 := 0
def tw4674850003065545842 := 0
def tw9476217061371133447 := 0
def tw12237948265768605630 := 0
def tw1997680074619499546 := 0
def tw16218051342119006793 := 0
def tw15076424409784577734 := 0
def tw12788774867682273849 := 0
def tw2572607141811182493 := 0
def tw14399299537942951401 := 0
def tw18197790792291850532 := 0
def tw1760828889622278832 := 0
def tw5009826996359072504 := 0
def tw8690046048629225119 := 0
def tw15343243728510811685 := 0
def tw17606147238680072378 := 0
def tw8577198465386215091 := 0
def tw11706207950089918106 := 0
def tw16969813453333280083 := 0
def tw571505925998440062 := 0
def tw4774885485989821209 := 0
def tw2582464322246345647 := 0
def tw1111166189719481367 := 0
def tw13175718744357420442 := 0
def tw18012637204527316893 := 0
def tw16754857927573811079 := 0
def tw4110469142399852196 := 0
def tw12301785980692087476 := 0
def tw10745457231369582198 := 0
def tw7306660406289184172 := 0
def tw15460342907955766919 := 0
def tw15718642864353795310 := 0
def tw6276133648438496530 := 0
def tw8850294272993598365 := 0
def tw15895801626309651099 := 0
def tw760626063908977051 := 0
def tw6609287852180695574 := 0
def tw7585705021400835360 := 0
def tw3986504780012395977 := 0
def tw17734501502774685479 := 0
def tw12883689159625072500 := 0
def tw11065339919465596153 := 0
def tw14645842988056072163 := 0
def tw4271470026745880362 := 0
def tw15969733617025109046 := 0
def tw9101885824937701825 := 0
def tw8261385080841741683 := 0
def tw6087586306723149189 := 0
def tw824211859532055618 := 0
def tw11710135995091489320 := 0
def tw13371822943991833346 := 0
def tw15056068969737869535 := 0
def tw17762829878996065573 := 0
def tw6729991247080829752 := 0
def tw3801292096213076452 := 0
def tw8106634646943623743 := 0
def tw11810966422453004856 := 0
def tw2284334198693066491 := 0
def tw9728173914904488691 := 0
def tw9109484347692233529 := 0
def tw4354976733541166493 := 0
def tw10871412416971414603 := 0
def tw7956803006285585571 := 0
def tw12331965935421146559 := 0
def tw9504070997429646169 := 0
def tw16643279527275662572 := 0
def tw1412109094811873208 := 0
def tw13055893008425416519 := 0
def tw5911696849773900619 := 0
def tw3720862589341005239 := 0
def tw15405469182121677485 := 0
def tw13999172518091949883 := 0
def tw15725076740323979402 := 0
def tw7686362233769849338 := 0
def tw10867829248327872793 := 0
def tw5517183585971868003 := 0
def tw1853234531562228626 := 0
def tw3429423723617901464 := 0
def tw290467206057070091 := 0
def tw17868433694823790583 := 0
def tw3598433224305950554 := 0
def tw13208193777418795037 := 0
def tw4148215803852434080 := 0
def tw843584155254429269 := 0
def tw14651782570111637123 := 0
def tw12209836754444623109 := 0
def tw13469838782937027465 := 0
def tw16418776318856487378 := 0
def tw6284906762909443779 := 0
def tw17254862395934655440 := 0
def tw11708683975631823392 := 0
def tw15869221701093531831 := 0
def tw4334140406066285739 := 0
def tw6604666348024260265 := 0
def tw10309396300646496294 := 0
def tw4142784751573272508 := 0
def tw14767383581895794636 := 0
def tw13705448674800665901 := 0
def tw7267663041016953940 := 0
def tw14168891205755568453 := 0
def tw11780175666060030084 := 0
def tw5597980190526770629 := 0
def tw8946708832545295914 := 0
end PySem.W.Fast
open PySem PySem.W PyProof.Rows
set_option maxRecDepth 100000 in
set_option maxHeartbeats 0 in
theorem PySem.Challenge.cw_smallgames_s01_answers_holds : PySem.Challenge.rw_smallgames_s01_answers.Holds := by
  w_on; k_headS; (case hw => exact ⟨[.list [.int 1, .int 0]], by decide +kernel, by decide +kernel⟩)
  k_fillS
  refine L2.walk_specK (r := PySem.Challenge.rw_smallgames_s01_answers) (k := 8) (CX := L2.CX0) (ps := ["calls"]) (sp := Sg.spAns) (by decide +kernel) rfl rfl ⟨rfl, by decide, by decide⟩ (fun w h Y => PySem.W.kIn_of Y) ?F ?S (fun _ _ _ _ z => z)
  case F =>
    intro w mg fa h Y KX G hmg
    refine' Sg.all_mk KX G hmg ?n_enumerate ?n_len ?n_list ?n_range ?g_GOES_ON ?g_UNKNOWN ?g_NO_KEY ?g_WRONG_PLACES ?g_ENDED ?g_MEMORY_SIZE ?g_BYTE_COUNT ?g_WORD_COUNT ?g_REGISTER_COUNT ?g_VF ?g_KEY_COUNT ?g_ASIDE_COUNT ?g_PLACE_COUNT ?g_FIRST_PC ?g_SMALL_HEIGHT ?g_LARGE_HEIGHT ?g_DIGITS ?t_DIGITS ?v_DIGITS ?g_STATE_COUNT ?g_SMALL_WIDTH ?g_LARGE_WIDTH ?g_SCREEN_BYTES ?g_COLUMNS_MOVED ?g_DIGIT_BYTES ?g_LARGE_DIGITS_AT ?g_LARGE_DIGIT_BYTES ?g_DONE ?g_REFUSED ?g_LONGEST_RUN ?g_I_REGISTER ?g_PC_REGISTER ?g_WAIT_TIMER ?g_SOUND_TIMER ?g_PLACES_THERE ?g_CLEAR ?g_LOAD ?g_LOOK ?g_KEY ?g_TICK ?g_RUN ?g_WHY ?g_GET ?g_SET ?g_SCREEN ?g_CALCULATIONS ?g_TRANSFERS ?g_BY_FIRST_DIGIT ?g_Machine ?pg_Machine ?hd_Machine ?po_Machine ?sa_Machine ?mk_Machine ?kc_Machine ?x_Machine_aside ?x_Machine_chance ?x_Machine_has_more ?x_Machine_i ?x_Machine_large ?x_Machine_memory ?x_Machine_numbers ?x_Machine_pc ?x_Machine_place ?x_Machine_places ?x_Machine_pressed ?x_Machine_registers ?x_Machine_rows ?x_Machine_sound ?x_Machine_stopped_by ?x_Machine_take ?x_Machine_take_row ?x_Machine_wait ?g_Reader ?pg_Reader ?hd_Reader ?po_Reader ?sa_Reader ?mk_Reader ?kc_Reader ?x_Reader_aside ?x_Reader_begin ?x_Reader_chance ?x_Reader_i ?x_Reader_large ?x_Reader_memory ?x_Reader_numbers ?x_Reader_pc ?x_Reader_place ?x_Reader_places ?x_Reader_pressed ?x_Reader_registers ?x_Reader_rows ?x_Reader_sound ?x_Reader_stopped_by ?x_Reader_wait ?m_Machine___init__ ?i_Machine___init__ ?l_Machine___init__ ?e_Machine___init__ ?k_Machine___init__ ?m_Machine_begin ?i_Machine_begin ?l_Machine_begin ?e_Machine_begin ?k_Machine_begin ?g_put_with_vf ?l_put_with_vf ?e_put_with_vf ?k_put_with_vf ?g_put_y ?l_put_y ?e_put_y ?k_put_y ?g_put_or ?l_put_or ?e_put_or ?k_put_or ?g_put_and ?l_put_and ?e_put_and ?k_put_and ?g_put_exclusive_or ?l_put_exclusive_or ?e_put_exclusive_or ?k_put_exclusive_or ?g_put_sum ?l_put_sum ?e_put_sum ?k_put_sum ?g_put_x_less_y ?l_put_x_less_y ?e_put_x_less_y ?k_put_x_less_y ?g_put_y_less_x ?l_put_y_less_x ?e_put_y_less_x ?k_put_y_less_x ?g_put_half ?l_put_half ?e_put_half ?k_put_half ?g_put_double ?l_put_double ?e_put_double ?k_put_double ?g_calculate ?l_calculate ?e_calculate ?k_calculate ?g_next_chance ?l_next_chance ?e_next_chance ?k_next_chance ?g_screen_width ?l_screen_width ?e_screen_width ?k_screen_width ?g_darken ?l_darken ?e_darken ?k_darken ?g_make_small ?l_make_small ?e_make_small ?k_make_small ?g_make_large ?l_make_large ?e_make_large ?k_make_large ?g_move_down ?l_move_down ?e_move_down ?k_move_down ?g_move_right ?l_move_right ?e_move_right ?k_move_right ?g_move_left ?l_move_left ?e_move_left ?k_move_left ?g_lay_shape ?l_lay_shape ?e_lay_shape ?k_lay_shape ?g_fit_points ?l_fit_points ?e_fit_points ?k_fit_points ?g_screen_bytes ?l_screen_bytes ?e_screen_bytes ?k_screen_bytes ?g_take_wait ?l_take_wait ?e_take_wait ?k_take_wait ?g_take_key ?l_take_key ?e_take_key ?k_take_key ?g_set_wait ?l_set_wait ?e_set_wait ?k_set_wait ?g_set_sound ?l_set_sound ?e_set_sound ?k_set_sound ?g_move_i_on ?l_move_i_on ?e_move_i_on ?k_move_i_on ?g_point_at_digit ?l_point_at_digit ?e_point_at_digit ?k_point_at_digit ?g_point_at_large_digit ?l_point_at_large_digit ?e_point_at_large_digit ?k_point_at_large_digit ?g_write_decimal ?l_write_decimal ?e_write_decimal ?k_write_decimal ?g_write_registers ?l_write_registers ?e_write_registers ?k_write_registers ?g_read_registers ?l_read_registers ?e_read_registers ?k_read_registers ?g_keep_aside ?l_keep_aside ?e_keep_aside ?k_keep_aside ?g_take_from_aside ?l_take_from_aside ?e_take_from_aside ?k_take_from_aside ?g_transfer ?l_transfer ?e_transfer ?k_transfer ?g_digit_x ?l_digit_x ?e_digit_x ?k_digit_x ?g_digit_y ?l_digit_y ?e_digit_y ?k_digit_y ?g_value_x ?l_value_x ?e_value_x ?k_value_x ?g_value_y ?l_value_y ?e_value_y ?k_value_y ?g_go_to ?l_go_to ?e_go_to ?k_go_to ?g_pass_over_if ?l_pass_over_if ?e_pass_over_if ?k_pass_over_if ?g_come_back ?l_come_back ?e_come_back ?k_come_back ?g_change_screen ?l_change_screen ?e_change_screen ?k_change_screen ?g_do_without_registers ?l_do_without_registers ?e_do_without_registers ?k_do_without_registers ?g_jump ?l_jump ?e_jump ?k_jump ?g_jump_and_come_back ?l_jump_and_come_back ?e_jump_and_come_back ?k_jump_and_come_back ?g_pass_if_number ?l_pass_if_number ?e_pass_if_number ?k_pass_if_number ?g_pass_if_not_number ?l_pass_if_not_number ?e_pass_if_not_number ?k_pass_if_not_number ?g_pass_if_equal ?l_pass_if_equal ?e_pass_if_equal ?k_pass_if_equal ?g_put_number ?l_put_number ?e_put_number ?k_put_number ?g_add_number ?l_add_number ?e_add_number ?k_add_number ?g_do_calculation ?l_do_calculation ?e_do_calculation ?k_do_calculation ?g_pass_if_unequal ?l_pass_if_unequal ?e_pass_if_unequal ?k_pass_if_unequal ?g_put_i ?l_put_i ?e_put_i ?k_put_i ?g_jump_further ?l_jump_further ?e_jump_further ?k_jump_further ?g_take_chance ?l_take_chance ?e_take_chance ?k_take_chance ?g_draw ?l_draw ?e_draw ?k_draw ?g_narrow_shape ?l_narrow_shape ?e_narrow_shape ?k_narrow_shape ?g_wide_shape ?l_wide_shape ?e_wide_shape ?k_wide_shape ?g_word_at ?l_word_at ?e_word_at ?k_word_at ?g_pass_by_key ?l_pass_by_key ?e_pass_by_key ?k_pass_by_key ?g_do_transfer ?l_do_transfer ?e_do_transfer ?k_do_transfer ?g_do_instruction ?l_do_instruction ?e_do_instruction ?k_do_instruction ?g_c8_clear ?l_c8_clear ?e_c8_clear ?k_c8_clear ?g_c8_load ?l_c8_load ?e_c8_load ?k_c8_load ?g_c8_look ?l_c8_look ?e_c8_look ?k_c8_look ?g_is_in_memory ?l_is_in_memory ?e_is_in_memory ?k_is_in_memory ?g_c8_key ?l_c8_key ?e_c8_key ?k_c8_key ?g_c8_tick ?l_c8_tick ?e_c8_tick ?k_c8_tick ?g_one_less ?l_one_less ?e_one_less ?k_one_less ?g_c8_run ?l_c8_run ?e_c8_run ?k_c8_run ?g_c8_why ?l_c8_why ?e_c8_why ?k_c8_why ?g_c8_get ?l_c8_get ?e_c8_get ?k_c8_get ?g_c8_set ?l_c8_set ?e_c8_set ?k_c8_set ?g_c8_screen ?l_c8_screen ?e_c8_screen ?k_c8_screen ?m_Reader___init__ ?i_Reader___init__ ?l_Reader___init__ ?e_Reader___init__ ?k_Reader___init__ ?m_Reader_has_more ?i_Reader_has_more ?l_Reader_has_more ?e_Reader_has_more ?k_Reader_has_more ?m_Reader_take ?i_Reader_take ?l_Reader_take ?e_Reader_take ?k_Reader_take ?m_Reader_take_row ?i_Reader_take_row ?l_Reader_take_row ?e_Reader_take_row ?k_Reader_take_row ?g_answers ?l_answers ?e_answers ?k_answers ?g_answer_call ?l_answer_call ?e_answer_call ?k_answer_call ?t_CALCULATIONS ?w_CALCULATIONS ?v_CALCULATIONS ?t_TRANSFERS ?w_TRANSFERS ?v_TRANSFERS ?t_BY_FIRST_DIGIT ?v_BY_FIRST_DIGIT
    (case n_enumerate => first | k_is | decide +kernel | rfl)
    (case n_len => first | k_is | decide +kernel | rfl)
    (case n_list => first | k_is | decide +kernel | rfl)
    (case n_range => first | k_is | decide +kernel | rfl)
    (case g_GOES_ON => first | k_is | decide +kernel | rfl)
    (case g_UNKNOWN => first | k_is | decide +kernel | rfl)
    (case g_NO_KEY => first | k_is | decide +kernel | rfl)
    (case g_WRONG_PLACES => first | k_is | decide +kernel | rfl)
    (case g_ENDED => first | k_is | decide +kernel | rfl)
    (case g_MEMORY_SIZE => first | k_is | decide +kernel | rfl)
    (case g_BYTE_COUNT => first | k_is | decide +kernel | rfl)
    (case g_WORD_COUNT => first | k_is | decide +kernel | rfl)
    (case g_REGISTER_COUNT => first | k_is | decide +kernel | rfl)
    (case g_VF => first | k_is | decide +kernel | rfl)
    (case g_KEY_COUNT => first | k_is | decide +kernel | rfl)
    (case g_ASIDE_COUNT => first | k_is | decide +kernel | rfl)
    (case g_PLACE_COUNT => first | k_is | decide +kernel | rfl)
    (case g_FIRST_PC => first | k_is | decide +kernel | rfl)
    (case g_SMALL_HEIGHT => first | k_is | decide +kernel | rfl)
    (case g_LARGE_HEIGHT => first | k_is | decide +kernel | rfl)
    (case g_DIGITS => first | k_is | decide +kernel | rfl)
    (case t_DIGITS => first | k_is | decide +kernel | rfl)
    (case v_DIGITS => first | k_is | decide +kernel | rfl)
    (case g_STATE_COUNT => first | k_is | decide +kernel | rfl)
    (case g_SMALL_WIDTH => first | k_is | decide +kernel | rfl)
    (case g_LARGE_WIDTH => first | k_is | decide +kernel | rfl)
    (case g_SCREEN_BYTES => first | k_is | decide +kernel | rfl)
    (case g_COLUMNS_MOVED => first | k_is | decide +kernel | rfl)
    (case g_DIGIT_BYTES => first | k_is | decide +kernel | rfl)
    (case g_LARGE_DIGITS_AT => first | k_is | decide +kernel | rfl)
    (case g_LARGE_DIGIT_BYTES => first | k_is | decide +kernel | rfl)
    (case g_DONE => first | k_is | decide +kernel | rfl)
    (case g_REFUSED => first | k_is | decide +kernel | rfl)
    (case g_LONGEST_RUN => first | k_is | decide +kernel | rfl)
    (case g_I_REGISTER => first | k_is | decide +kernel | rfl)
    (case g_PC_REGISTER => first | k_is | decide +kernel | rfl)
    (case g_WAIT_TIMER => first | k_is | decide +kernel | rfl)
    (case g_SOUND_TIMER => first | k_is | decide +kernel | rfl)
    (case g_PLACES_THERE => first | k_is | decide +kernel | rfl)
    (case g_CLEAR => first | k_is | decide +kernel | rfl)
    (case g_LOAD => first | k_is | decide +kernel | rfl)
    (case g_LOOK => first | k_is | decide +kernel | rfl)
    (case g_KEY => first | k_is | decide +kernel | rfl)
    (case g_TICK => first | k_is | decide +kernel | rfl)
    (case g_RUN => first | k_is | decide +kernel | rfl)
    (case g_WHY => first | k_is | decide +kernel | rfl)
    (case g_GET => first | k_is | decide +kernel | rfl)
    (case g_SET => first | k_is | decide +kernel | rfl)
    (case g_SCREEN => first | k_is | decide +kernel | rfl)
    (case g_CALCULATIONS => first | k_is | decide +kernel | rfl)
    (case g_TRANSFERS => first | k_is | decide +kernel | rfl)
    (case g_BY_FIRST_DIGIT => first | k_is | decide +kernel | rfl)
    (case g_Machine => first | k_is | decide +kernel | rfl)
    (case pg_Machine => first | k_is | decide +kernel | rfl)
    (case hd_Machine => first | k_is | decide +kernel | rfl)
    (case po_Machine => first | k_is | decide +kernel | rfl)
    (case sa_Machine => first | k_is | decide +kernel | rfl)
    (case mk_Machine => first | k_is | decide +kernel | rfl)
    (case kc_Machine => first | k_is | decide +kernel | rfl)
    (case x_Machine_aside => first | k_is | decide +kernel | rfl)
    (case x_Machine_chance => first | k_is | decide +kernel | rfl)
    (case x_Machine_has_more => first | k_is | decide +kernel | rfl)
    (case x_Machine_i => first | k_is | decide +kernel | rfl)
    (case x_Machine_large => first | k_is | decide +kernel | rfl)
    (case x_Machine_memory => first | k_is | decide +kernel | rfl)
    (case x_Machine_numbers => first | k_is | decide +kernel | rfl)
    (case x_Machine_pc => first | k_is | decide +kernel | rfl)
    (case x_Machine_place => first | k_is | decide +kernel | rfl)
    (case x_Machine_places => first | k_is | decide +kernel | rfl)
    (case x_Machine_pressed => first | k_is | decide +kernel | rfl)
    (case x_Machine_registers => first | k_is | decide +kernel | rfl)
    (case x_Machine_rows => first | k_is | decide +kernel | rfl)
    (case x_Machine_sound => first | k_is | decide +kernel | rfl)
    (case x_Machine_stopped_by => first | k_is | decide +kernel | rfl)
    (case x_Machine_take => first | k_is | decide +kernel | rfl)
    (case x_Machine_take_row => first | k_is | decide +kernel | rfl)
    (case x_Machine_wait => first | k_is | decide +kernel | rfl)
    (case g_Reader => first | k_is | decide +kernel | rfl)
    (case pg_Reader => first | k_is | decide +kernel | rfl)
    (case hd_Reader => first | k_is | decide +kernel | rfl)
    (case po_Reader => first | k_is | decide +kernel | rfl)
    (case sa_Reader => first | k_is | decide +kernel | rfl)
    (case mk_Reader => first | k_is | decide +kernel | rfl)
    (case kc_Reader => first | k_is | decide +kernel | rfl)
    (case x_Reader_aside => first | k_is | decide +kernel | rfl)
    (case x_Reader_begin => first | k_is | decide +kernel | rfl)
    (case x_Reader_chance => first | k_is | decide +kernel | rfl)
    (case x_Reader_i => first | k_is | decide +kernel | rfl)
    (case x_Reader_large => first | k_is | decide +kernel | rfl)
    (case x_Reader_memory => first | k_is | decide +kernel | rfl)
    (case x_Reader_numbers => first | k_is | decide +kernel | rfl)
    (case x_Reader_pc => first | k_is | decide +kernel | rfl)
    (case x_Reader_place => first | k_is | decide +kernel | rfl)
    (case x_Reader_places => first | k_is | decide +kernel | rfl)
    (case x_Reader_pressed => first | k_is | decide +kernel | rfl)
    (case x_Reader_registers => first | k_is | decide +kernel | rfl)
    (case x_Reader_rows => first | k_is | decide +kernel | rfl)
    (case x_Reader_sound => first | k_is | decide +kernel | rfl)
    (case x_Reader_stopped_by => first | k_is | decide +kernel | rfl)
    (case x_Reader_wait => first | k_is | decide +kernel | rfl)
    (case m_Machine___init__ => first | k_is | decide +kernel | rfl)
    (case i_Machine___init__ => first | k_is | decide +kernel | rfl)
    (case l_Machine___init__ => first | k_is | decide +kernel | rfl)
    (case e_Machine___init__ => first | k_is | decide +kernel | rfl)
    (case k_Machine___init__ => first | k_is | decide +kernel | rfl)
    (case m_Machine_begin => first | k_is | decide +kernel | rfl)
    (case i_Machine_begin => first | k_is | decide +kernel | rfl)
    (case l_Machine_begin => first | k_is | decide +kernel | rfl)
    (case e_Machine_begin => first | k_is | decide +kernel | rfl)
    (case k_Machine_begin => first | k_is | decide +kernel | rfl)
    (case g_put_with_vf => first | k_is | decide +kernel | rfl)
    (case l_put_with_vf => first | k_is | decide +kernel | rfl)
    (case e_put_with_vf => first | k_is | decide +kernel | rfl)
    (case k_put_with_vf => first | k_is | decide +kernel | rfl)
    (case g_put_y => first | k_is | decide +kernel | rfl)
    (case l_put_y => first | k_is | decide +kernel | rfl)
    (case e_put_y => first | k_is | decide +kernel | rfl)
    (case k_put_y => first | k_is | decide +kernel | rfl)
    (case g_put_or => first | k_is | decide +kernel | rfl)
    (case l_put_or => first | k_is | decide +kernel | rfl)
    (case e_put_or => first | k_is | decide +kernel | rfl)
    (case k_put_or => first | k_is | decide +kernel | rfl)
    (case g_put_and => first | k_is | decide +kernel | rfl)
    (case l_put_and => first | k_is | decide +kernel | rfl)
    (case e_put_and => first | k_is | decide +kernel | rfl)
    (case k_put_and => first | k_is | decide +kernel | rfl)
    (case g_put_exclusive_or => first | k_is | decide +kernel | rfl)
    (case l_put_exclusive_or => first | k_is | decide +kernel | rfl)
    (case e_put_exclusive_or => first | k_is | decide +kernel | rfl)
    (case k_put_exclusive_or => first | k_is | decide +kernel | rfl)
    (case g_put_sum => first | k_is | decide +kernel | rfl)
    (case l_put_sum => first | k_is | decide +kernel | rfl)
    (case e_put_sum => first | k_is | decide +kernel | rfl)
    (case k_put_sum => first | k_is | decide +kernel | rfl)
    (case g_put_x_less_y => first | k_is | decide +kernel | rfl)
    (case l_put_x_less_y => first | k_is | decide +kernel | rfl)
    (case e_put_x_less_y => first | k_is | decide +kernel | rfl)
    (case k_put_x_less_y => first | k_is | decide +kernel | rfl)
    (case g_put_y_less_x => first | k_is | decide +kernel | rfl)
    (case l_put_y_less_x => first | k_is | decide +kernel | rfl)
    (case e_put_y_less_x => first | k_is | decide +kernel | rfl)
    (case k_put_y_less_x => first | k_is | decide +kernel | rfl)
    (case g_put_half => first | k_is | decide +kernel | rfl)
    (case l_put_half => first | k_is | decide +kernel | rfl)
    (case e_put_half => first | k_is | decide +kernel | rfl)
    (case k_put_half => first | k_is | decide +kernel | rfl)
    (case g_put_double => first | k_is | decide +kernel | rfl)
    (case l_put_double => first | k_is | decide +kernel | rfl)
    (case e_put_double => first | k_is | decide +kernel | rfl)
    (case k_put_double => first | k_is | decide +kernel | rfl)
    (case g_calculate => first | k_is | decide +kernel | rfl)
    (case l_calculate => first | k_is | decide +kernel | rfl)
    (case e_calculate => first | k_is | decide +kernel | rfl)
    (case k_calculate => first | k_is | decide +kernel | rfl)
    (case g_next_chance => first | k_is | decide +kernel | rfl)
    (case l_next_chance => first | k_is | decide +kernel | rfl)
    (case e_next_chance => first | k_is | decide +kernel | rfl)
    (case k_next_chance => first | k_is | decide +kernel | rfl)
    (case g_screen_width => first | k_is | decide +kernel | rfl)
    (case l_screen_width => first | k_is | decide +kernel | rfl)
    (case e_screen_width => first | k_is | decide +kernel | rfl)
    (case k_screen_width => first | k_is | decide +kernel | rfl)
    (case g_darken => first | k_is | decide +kernel | rfl)
    (case l_darken => first | k_is | decide +kernel | rfl)
    (case e_darken => first | k_is | decide +kernel | rfl)
    (case k_darken => first | k_is | decide +kernel | rfl)
    (case g_make_small => first | k_is | decide +kernel | rfl)
    (case l_make_small => first | k_is | decide +kernel | rfl)
    (case e_make_small => first | k_is | decide +kernel | rfl)
    (case k_make_small => first | k_is | decide +kernel | rfl)
    (case g_make_large => first | k_is | decide +kernel | rfl)
    (case l_make_large => first | k_is | decide +kernel | rfl)
    (case e_make_large => first | k_is | decide +kernel | rfl)
    (case k_make_large => first | k_is | decide +kernel | rfl)
    (case g_move_down => first | k_is | decide +kernel | rfl)
    (case l_move_down => first | k_is | decide +kernel | rfl)
    (case e_move_down => first | k_is | decide +kernel | rfl)
    (case k_move_down => first | k_is | decide +kernel | rfl)
    (case g_move_right => first | k_is | decide +kernel | rfl)
    (case l_move_right => first | k_is | decide +kernel | rfl)
    (case e_move_right => first | k_is | decide +kernel | rfl)
    (case k_move_right => first | k_is | decide +kernel | rfl)
    (case g_move_left => first | k_is | decide +kernel | rfl)
    (case l_move_left => first | k_is | decide +kernel | rfl)
    (case e_move_left => first | k_is | decide +kernel | rfl)
    (case k_move_left => first | k_is | decide +kernel | rfl)
    (case g_lay_shape => first | k_is | decide +kernel | rfl)
    (case l_lay_shape => first | k_is | decide +kernel | rfl)
    (case e_lay_shape => first | k_is | decide +kernel | rfl)
    (case k_lay_shape => first | k_is | decide +kernel | rfl)
    (case g_fit_points => first | k_is | decide +kernel | rfl)
    (case l_fit_points => first | k_is | decide +kernel | rfl)
    (case e_fit_points => first | k_is | decide +kernel | rfl)
    (case k_fit_points => first | k_is | decide +kernel | rfl)
    (case g_screen_bytes => first | k_is | decide +kernel | rfl)
    (case l_screen_bytes => first | k_is | decide +kernel | rfl)
    (case e_screen_bytes => first | k_is | decide +kernel | rfl)
    (case k_screen_bytes => first | k_is | decide +kernel | rfl)
    (case g_take_wait => first | k_is | decide +kernel | rfl)
    (case l_take_wait => first | k_is | decide +kernel | rfl)
    (case e_take_wait => first | k_is | decide +kernel | rfl)
    (case k_take_wait => first | k_is | decide +kernel | rfl)
    (case g_take_key => first | k_is | decide +kernel | rfl)
    (case l_take_key => first | k_is | decide +kernel | rfl)
    (case e_take_key => first | k_is | decide +kernel | rfl)
    (case k_take_key => first | k_is | decide +kernel | rfl)
    (case g_set_wait => first | k_is | decide +kernel | rfl)
    (case l_set_wait => first | k_is | decide +kernel | rfl)
    (case e_set_wait => first | k_is | decide +kernel | rfl)
    (case k_set_wait => first | k_is | decide +kernel | rfl)
    (case g_set_sound => first | k_is | decide +kernel | rfl)
    (case l_set_sound => first | k_is | decide +kernel | rfl)
    (case e_set_sound => first | k_is | decide +kernel | rfl)
    (case k_set_sound => first | k_is | decide +kernel | rfl)
    (case g_move_i_on => first | k_is | decide +kernel | rfl)
    (case l_move_i_on => first | k_is | decide +kernel | rfl)
    (case e_move_i_on => first | k_is | decide +kernel | rfl)
    (case k_move_i_on => first | k_is | decide +kernel | rfl)
    (case g_point_at_digit => first | k_is | decide +kernel | rfl)
    (case l_point_at_digit => first | k_is | decide +kernel | rfl)
    (case e_point_at_digit => first | k_is | decide +kernel | rfl)
    (case k_point_at_digit => first | k_is | decide +kernel | rfl)
    (case g_point_at_large_digit => first | k_is | decide +kernel | rfl)
    (case l_point_at_large_digit => first | k_is | decide +kernel | rfl)
    (case e_point_at_large_digit => first | k_is | decide +kernel | rfl)
    (case k_point_at_large_digit => first | k_is | decide +kernel | rfl)
    (case g_write_decimal => first | k_is | decide +kernel | rfl)
    (case l_write_decimal => first | k_is | decide +kernel | rfl)
    (case e_write_decimal => first | k_is | decide +kernel | rfl)
    (case k_write_decimal => first | k_is | decide +kernel | rfl)
    (case g_write_registers => first | k_is | decide +kernel | rfl)
    (case l_write_registers => first | k_is | decide +kernel | rfl)
    (case e_write_registers => first | k_is | decide +kernel | rfl)
    (case k_write_registers => first | k_is | decide +kernel | rfl)
    (case g_read_registers => first | k_is | decide +kernel | rfl)
    (case l_read_registers => first | k_is | decide +kernel | rfl)
    (case e_read_registers => first | k_is | decide +kernel | rfl)
    (case k_read_registers => first | k_is | decide +kernel | rfl)
    (case g_keep_aside => first | k_is | decide +kernel | rfl)
    (case l_keep_aside => first | k_is | decide +kernel | rfl)
    (case e_keep_aside => first | k_is | decide +kernel | rfl)
    (case k_keep_aside => first | k_is | decide +kernel | rfl)
    (case g_take_from_aside => first | k_is | decide +kernel | rfl)
    (case l_take_from_aside => first | k_is | decide +kernel | rfl)
    (case e_take_from_aside => first | k_is | decide +kernel | rfl)
    (case k_take_from_aside => first | k_is | decide +kernel | rfl)
    (case g_transfer => first | k_is | decide +kernel | rfl)
    (case l_transfer => first | k_is | decide +kernel | rfl)
    (case e_transfer => first | k_is | decide +kernel | rfl)
    (case k_transfer => first | k_is | decide +kernel | rfl)
    (case g_digit_x => first | k_is | decide +kernel | rfl)
    (case l_digit_x => first | k_is | decide +kernel | rfl)
    (case e_digit_x => first | k_is | decide +kernel | rfl)
    (case k_digit_x => first | k_is | decide +kernel | rfl)
    (case g_digit_y => first | k_is | decide +kernel | rfl)
    (case l_digit_y => first | k_is | decide +kernel | rfl)
    (case e_digit_y => first | k_is | decide +kernel | rfl)
    (case k_digit_y => first | k_is | decide +kernel | rfl)
    (case g_value_x => first | k_is | decide +kernel | rfl)
    (case l_value_x => first | k_is | decide +kernel | rfl)
    (case e_value_x => first | k_is | decide +kernel | rfl)
    (case k_value_x => first | k_is | decide +kernel | rfl)
    (case g_value_y => first | k_is | decide +kernel | rfl)
    (case l_value_y => first | k_is | decide +kernel | rfl)
    (case e_value_y => first | k_is | decide +kernel | rfl)
    (case k_value_y => first | k_is | decide +kernel | rfl)
    (case g_go_to => first | k_is | decide +kernel | rfl)
    (case l_go_to => first | k_is | decide +kernel | rfl)
    (case e_go_to => first | k_is | decide +kernel | rfl)
    (case k_go_to => first | k_is | decide +kernel | rfl)
    (case g_pass_over_if => first | k_is | decide +kernel | rfl)
    (case l_pass_over_if => first | k_is | decide +kernel | rfl)
    (case e_pass_over_if => first | k_is | decide +kernel | rfl)
    (case k_pass_over_if => first | k_is | decide +kernel | rfl)
    (case g_come_back => first | k_is | decide +kernel | rfl)
    (case l_come_back => first | k_is | decide +kernel | rfl)
    (case e_come_back => first | k_is | decide +kernel | rfl)
    (case k_come_back => first | k_is | decide +kernel | rfl)
    (case g_change_screen => first | k_is | decide +kernel | rfl)
    (case l_change_screen => first | k_is | decide +kernel | rfl)
    (case e_change_screen => first | k_is | decide +kernel | rfl)
    (case k_change_screen => first | k_is | decide +kernel | rfl)
    (case g_do_without_registers => first | k_is | decide +kernel | rfl)
    (case l_do_without_registers => first | k_is | decide +kernel | rfl)
    (case e_do_without_registers => first | k_is | decide +kernel | rfl)
    (case k_do_without_registers => first | k_is | decide +kernel | rfl)
    (case g_jump => first | k_is | decide +kernel | rfl)
    (case l_jump => first | k_is | decide +kernel | rfl)
    (case e_jump => first | k_is | decide +kernel | rfl)
    (case k_jump => first | k_is | decide +kernel | rfl)
    (case g_jump_and_come_back => first | k_is | decide +kernel | rfl)
    (case l_jump_and_come_back => first | k_is | decide +kernel | rfl)
    (case e_jump_and_come_back => first | k_is | decide +kernel | rfl)
    (case k_jump_and_come_back => first | k_is | decide +kernel | rfl)
    (case g_pass_if_number => first | k_is | decide +kernel | rfl)
    (case l_pass_if_number => first | k_is | decide +kernel | rfl)
    (case e_pass_if_number => first | k_is | decide +kernel | rfl)
    (case k_pass_if_number => first | k_is | decide +kernel | rfl)
    (case g_pass_if_not_number => first | k_is | decide +kernel | rfl)
    (case l_pass_if_not_number => first | k_is | decide +kernel | rfl)
    (case e_pass_if_not_number => first | k_is | decide +kernel | rfl)
    (case k_pass_if_not_number => first | k_is | decide +kernel | rfl)
    (case g_pass_if_equal => first | k_is | decide +kernel | rfl)
    (case l_pass_if_equal => first | k_is | decide +kernel | rfl)
    (case e_pass_if_equal => first | k_is | decide +kernel | rfl)
    (case k_pass_if_equal => first | k_is | decide +kernel | rfl)
    (case g_put_number => first | k_is | decide +kernel | rfl)
    (case l_put_number => first | k_is | decide +kernel | rfl)
    (case e_put_number => first | k_is | decide +kernel | rfl)
    (case k_put_number => first | k_is | decide +kernel | rfl)
    (case g_add_number => first | k_is | decide +kernel | rfl)
    (case l_add_number => first | k_is | decide +kernel | rfl)
    (case e_add_number => first | k_is | decide +kernel | rfl)
    (case k_add_number => first | k_is | decide +kernel | rfl)
    (case g_do_calculation => first | k_is | decide +kernel | rfl)
    (case l_do_calculation => first | k_is | decide +kernel | rfl)
    (case e_do_calculation => first | k_is | decide +kernel | rfl)
    (case k_do_calculation => first | k_is | decide +kernel | rfl)
    (case g_pass_if_unequal => first | k_is | decide +kernel | rfl)
    (case l_pass_if_unequal => first | k_is | decide +kernel | rfl)
    (case e_pass_if_unequal => first | k_is | decide +kernel | rfl)
    (case k_pass_if_unequal => first | k_is | decide +kernel | rfl)
    (case g_put_i => first | k_is | decide +kernel | rfl)
    (case l_put_i => first | k_is | decide +kernel | rfl)
    (case e_put_i => first | k_is | decide +kernel | rfl)
    (case k_put_i => first | k_is | decide +kernel | rfl)
    (case g_jump_further => first | k_is | decide +kernel | rfl)
    (case l_jump_further => first | k_is | decide +kernel | rfl)
    (case e_jump_further => first | k_is | decide +kernel | rfl)
    (case k_jump_further => first | k_is | decide +kernel | rfl)
    (case g_take_chance => first | k_is | decide +kernel | rfl)
    (case l_take_chance => first | k_is | decide +kernel | rfl)
    (case e_take_chance => first | k_is | decide +kernel | rfl)
    (case k_take_chance => first | k_is | decide +kernel | rfl)
    (case g_draw => first | k_is | decide +kernel | rfl)
    (case l_draw => first | k_is | decide +kernel | rfl)
    (case e_draw => first | k_is | decide +kernel | rfl)
    (case k_draw => first | k_is | decide +kernel | rfl)
    (case g_narrow_shape => first | k_is | decide +kernel | rfl)
    (case l_narrow_shape => first | k_is | decide +kernel | rfl)
    (case e_narrow_shape => first | k_is | decide +kernel | rfl)
    (case k_narrow_shape => first | k_is | decide +kernel | rfl)
    (case g_wide_shape => first | k_is | decide +kernel | rfl)
    (case l_wide_shape => first | k_is | decide +kernel | rfl)
    (case e_wide_shape => first | k_is | decide +kernel | rfl)
    (case k_wide_shape => first | k_is | decide +kernel | rfl)
    (case g_word_at => first | k_is | decide +kernel | rfl)
    (case l_word_at => first | k_is | decide +kernel | rfl)
    (case e_word_at => first | k_is | decide +kernel | rfl)
    (case k_word_at => first | k_is | decide +kernel | rfl)
    (case g_pass_by_key => first | k_is | decide +kernel | rfl)
    (case l_pass_by_key => first | k_is | decide +kernel | rfl)
    (case e_pass_by_key => first | k_is | decide +kernel | rfl)
    (case k_pass_by_key => first | k_is | decide +kernel | rfl)
    (case g_do_transfer => first | k_is | decide +kernel | rfl)
    (case l_do_transfer => first | k_is | decide +kernel | rfl)
    (case e_do_transfer => first | k_is | decide +kernel | rfl)
    (case k_do_transfer => first | k_is | decide +kernel | rfl)
    (case g_do_instruction => first | k_is | decide +kernel | rfl)
    (case l_do_instruction => first | k_is | decide +kernel | rfl)
    (case e_do_instruction => first | k_is | decide +kernel | rfl)
    (case k_do_instruction => first | k_is | decide +kernel | rfl)
    (case g_c8_clear => first | k_is | decide +kernel | rfl)
    (case l_c8_clear => first | k_is | decide +kernel | rfl)
    (case e_c8_clear => first | k_is | decide +kernel | rfl)
    (case k_c8_clear => first | k_is | decide +kernel | rfl)
    (case g_c8_load => first | k_is | decide +kernel | rfl)
    (case l_c8_load => first | k_is | decide +kernel | rfl)
    (case e_c8_load => first | k_is | decide +kernel | rfl)
    (case k_c8_load => first | k_is | decide +kernel | rfl)
    (case g_c8_look => first | k_is | decide +kernel | rfl)
    (case l_c8_look => first | k_is | decide +kernel | rfl)
    (case e_c8_look => first | k_is | decide +kernel | rfl)
    (case k_c8_look => first | k_is | decide +kernel | rfl)
    (case g_is_in_memory => first | k_is | decide +kernel | rfl)
    (case l_is_in_memory => first | k_is | decide +kernel | rfl)
    (case e_is_in_memory => first | k_is | decide +kernel | rfl)
    (case k_is_in_memory => first | k_is | decide +kernel | rfl)
    (case g_c8_key => first | k_is | decide +kernel | rfl)
    (case l_c8_key => first | k_is | decide +kernel | rfl)
    (case e_c8_key => first | k_is | decide +kernel | rfl)
    (case k_c8_key => first | k_is | decide +kernel | rfl)
    (case g_c8_tick => first | k_is | decide +kernel | rfl)
    (case l_c8_tick => first | k_is | decide +kernel | rfl)
    (case e_c8_tick => first | k_is | decide +kernel | rfl)
    (case k_c8_tick => first | k_is | decide +kernel | rfl)
    (case g_one_less => first | k_is | decide +kernel | rfl)
    (case l_one_less => first | k_is | decide +kernel | rfl)
    (case e_one_less => first | k_is | decide +kernel | rfl)
    (case k_one_less => first | k_is | decide +kernel | rfl)
    (case g_c8_run => first | k_is | decide +kernel | rfl)
    (case l_c8_run => first | k_is | decide +kernel | rfl)
    (case e_c8_run => first | k_is | decide +kernel | rfl)
    (case k_c8_run => first | k_is | decide +kernel | rfl)
    (case g_c8_why => first | k_is | decide +kernel | rfl)
    (case l_c8_why => first | k_is | decide +kernel | rfl)
    (case e_c8_why => first | k_is | decide +kernel | rfl)
    (case k_c8_why => first | k_is | decide +kernel | rfl)
    (case g_c8_get => first | k_is | decide +kernel | rfl)
    (case l_c8_get => first | k_is | decide +kernel | rfl)
    (case e_c8_get => first | k_is | decide +kernel | rfl)
    (case k_c8_get => first | k_is | decide +kernel | rfl)
    (case g_c8_set => first | k_is | decide +kernel | rfl)
    (case l_c8_set => first | k_is | decide +kernel | rfl)
    (case e_c8_set => first | k_is | decide +kernel | rfl)
    (case k_c8_set => first | k_is | decide +kernel | rfl)
    (case g_c8_screen => first | k_is | decide +kernel | rfl)
    (case l_c8_screen => first | k_is | decide +kernel | rfl)
    (case e_c8_screen => first | k_is | decide +kernel | rfl)
    (case k_c8_screen => first | k_is | decide +kernel | rfl)
    (case m_Reader___init__ => first | k_is | decide +kernel | rfl)
    (case i_Reader___init__ => first | k_is | decide +kernel | rfl)
    (case l_Reader___init__ => first | k_is | decide +kernel | rfl)
    (case e_Reader___init__ => first | k_is | decide +kernel | rfl)
    (case k_Reader___init__ => first | k_is | decide +kernel | rfl)
    (case m_Reader_has_more => first | k_is | decide +kernel | rfl)
    (case i_Reader_has_more => first | k_is | decide +kernel | rfl)
    (case l_Reader_has_more => first | k_is | decide +kernel | rfl)
    (case e_Reader_has_more => first | k_is | decide +kernel | rfl)
    (case k_Reader_has_more => first | k_is | decide +kernel | rfl)
    (case m_Reader_take => first | k_is | decide +kernel | rfl)
    (case i_Reader_take => first | k_is | decide +kernel | rfl)
    (case l_Reader_take => first | k_is | decide +kernel | rfl)
    (case e_Reader_take => first | k_is | decide +kernel | rfl)
    (case k_Reader_take => first | k_is | decide +kernel | rfl)
    (case m_Reader_take_row => first | k_is | decide +kernel | rfl)
    (case i_Reader_take_row => first | k_is | decide +kernel | rfl)
    (case l_Reader_take_row => first | k_is | decide +kernel | rfl)
    (case e_Reader_take_row => first | k_is | decide +kernel | rfl)
    (case k_Reader_take_row => first | k_is | decide +kernel | rfl)
    (case g_answers => first | k_is | decide +kernel | rfl)
    (case l_answers => first | k_is | decide +kernel | rfl)
    (case e_answers => first | k_is | decide +kernel | rfl)
    (case k_answers => first | k_is | decide +kernel | rfl)
    (case g_answer_call => first | k_is | decide +kernel | rfl)
    (case l_answer_call => first | k_is | decide +kernel | rfl)
    (case e_answer_call => first | k_is | decide +kernel | rfl)
    (case k_answer_call => first | k_is | decide +kernel | rfl)
    (case t_CALCULATIONS => first | k_is | decide +kernel | rfl)
    (case w_CALCULATIONS => first | k_is | decide +kernel | rfl)
    (case v_CALCULATIONS => first | k_is | decide +kernel | rfl)
    (case t_TRANSFERS => first | k_is | decide +kernel | rfl)
    (case w_TRANSFERS => first | k_is | decide +kernel | rfl)
    (case v_TRANSFERS => first | k_is | decide +kernel | rfl)
    (case t_BY_FIRST_DIGIT => first | k_is | decide +kernel | rfl)
    (case v_BY_FIRST_DIGIT => first | k_is | decide +kernel | rfl)
  case S =>
    intro K H xs a hO hwi hask hx
    cases hx with
    | cons h1 h2 =>
      cases h2
      cases h1 with
      | lst hs ha =>
        have e := L2.ints_dw a.1 _ ha
        subst e
        have q : ((Codec.inLen 0 30000 a.1 && a.1.all (Codec.inInt (-2147483648) 4294967295)) && true) = true := hwi
        rw [Bool.and_eq_true, Bool.and_eq_true] at q
        refine ⟨_, a.1, rfl, hs, (Codec.inNat_iff.mp q.1.1).2, ?_, hask, fun H' p hp => .lst (L2.SqL.of hp) (L2.dw_ints _)⟩
        intro x hx
        have z := List.all_eq_true.mp q.1.2 x hx
        exact Codec.inInt_iff.mp z
