import PyProof.Rows.All
import Wide.All
import OpenK.AllK
import Wide.FinOn
import PyProof.EqAt
import PyProof.EqKinds
import PyProof.TupleCall
import KE.BitLaws
import Open.SpecLaws
import KE.OsHead
import KE.OsGo
import PySem.Challenge.RW_mineshaft_s01_answers
-- CHANGE: your row's module here, as the last of these rows
set_option Elab.async false
set_option linter.all false
set_option maxRecDepth 100000
/-! THE HAND LAYER, for ints, bools, texts, own classes, lists, tuples, dicts, comprehensions, walks over dicts, enumerate, zip, reversed, texts, calls, loops. Paste it whole ahead of your own text; what your proof does not reach may be deleted. -/
namespace L2
open PySem PySem.Spec PyProof.Rows
/-- a key: an int or a str -/
abbrev Key := Sum Int Str
def keyIs : Key → Value → Bool
  | .inl k, v => Value.isInt k v
  | .inr x, v => Value.isStrOf x v
def keyH (w : World) : Key → Int
  | .inl k => hashInt k
  | .inr x => hashStr w x
theorem keyIs_shape : ∀ {k : Key} {v : Value}, keyIs k v = true → (∃ i t, k = Sum.inl i ∧ v = Value.int i t) ∨ (∃ x t, k = Sum.inr x ∧ v = Value.str x t)
  | .inl i, v, h => by
    obtain ⟨t, e⟩ := Value.isInt_shape (k := i) (v := v) h
    exact .inl ⟨i, t, rfl, e⟩
  | .inr x, v, h => by
    obtain ⟨t, e⟩ := Value.isStrOf_shape (x := x) (v := v) h
    exact .inr ⟨x, t, rfl, e⟩
theorem key_ll (a b : Int) : decide ((Sum.inl a : Key) = Sum.inl b) = (a == b) := by
  by_cases e : a = b
  · subst e; simp
  · have h : ¬ (Sum.inl a : Key) = Sum.inl b := fun q => e (Sum.inl.inj q)
    rw [decide_eq_false h]
    exact (beq_eq_false_iff_ne.mpr e).symm
theorem key_rr (a b : Str) : decide ((Sum.inr a : Key) = Sum.inr b) = decide (a = b) := by
  by_cases e : a = b
  · subst e; simp
  · have h : ¬ (Sum.inr a : Key) = Sum.inr b := fun q => e (Sum.inr.inj q)
    rw [decide_eq_false h, decide_eq_false e]
theorem key_lr (a : Int) (b : Str) : decide ((Sum.inl a : Key) = Sum.inr b) = false := decide_eq_false (fun q => nomatch q)
theorem key_rl (a : Str) (b : Int) : decide ((Sum.inr a : Key) = Sum.inl b) = false := decide_eq_false (fun q => nomatch q)
def mixKind (prog : Program) (w : World) : PySem.KeyKind prog w Key where
  is := keyIs
  hash := keyH w
  inj := fun v a b ha hb => by
    rcases keyIs_shape ha with ⟨i, t, rfl, rfl⟩ | ⟨x, t, rfl, rfl⟩
    · rcases keyIs_shape hb with ⟨j, u, rfl, e⟩ | ⟨y, u, rfl, e⟩
      · injection e with e1 _; rw [e1]
      · exact nomatch e
    · rcases keyIs_shape hb with ⟨j, u, rfl, e⟩ | ⟨y, u, rfl, e⟩
      · exact nomatch e
      · injection e with e1 _; rw [e1]
  byValue := fun k v h => by
    rcases keyIs_shape h with ⟨i, t, rfl, rfl⟩ | ⟨x, t, rfl, rfl⟩ <;> rfl
  pyHash := fun hv h => by
    rcases keyIs_shape hv with ⟨i, t, rfl, rfl⟩ | ⟨x, t, rfl, rfl⟩
    · exact wpAny_pyHash_int h
    · exact wpAny_pyHash_str h
  eqBool := fun hu hv h => by
    rcases keyIs_shape hu with ⟨i, t, rfl, rfl⟩ | ⟨x, t, rfl, rfl⟩
    · rcases keyIs_shape hv with ⟨j, u, rfl, rfl⟩ | ⟨y, u, rfl, rfl⟩
      · rw [key_ll] at h; exact wpAny_eqBool_int h
      · rw [key_lr] at h; exact SeqAt.EqAt.int_str i t y u _ _ _ _ h
    · rcases keyIs_shape hv with ⟨j, u, rfl, rfl⟩ | ⟨y, u, rfl, rfl⟩
      · rw [key_rl] at h; exact SeqAt.EqAt.str_int x t j u _ _ _ _ h
      · rw [key_rr] at h; exact wpAny_eqBool_str h
  «strs» := fun k x t v h => by
    rcases keyIs_shape h with ⟨i, u, rfl, e⟩ | ⟨y, u, rfl, e⟩
    · exact nomatch e
    · injection e with e1 _
      subst e1
      cases v <;> rfl
end L2
namespace L2
open PySem PySem.Spec PyProof.Rows
/-- a value, without the heap -/
inductive V where
  | non | bl (b : Bool) | int (i : Int) | str (x : Str) | byt (b : Array UInt8) | flt (b : UInt64) | ref (a : Addr) | ty (n : String)
  deriving DecidableEq
def RelV : V → Value → Prop
  | .non, u => u = Value.none
  | .bl b, u => u = Value.bool b
  | .int i, u => ∃ t, u = Value.int i t
  | .str x, u => ∃ t, u = Value.str x t
  | .byt b, u => ∃ t, u = Value.bytes b t
  | .flt b, u => ∃ t, u = Value.float b t
  | .ref a, u => u = Value.ref a
  | .ty n, u => u = Value.type n
abbrev Vals : List V → List Value → Prop := Paired RelV
theorem Vals.length {xs : List V} {us : List Value} (r : Vals xs us) : xs.length = us.length := Paired.length r
theorem Vals.get : ∀ {xs : List V} {us : List Value} {i : Nat} {x : V}, Vals xs us → xs[i]? = some x → ∃ u, us[i]? = some u ∧ RelV x u
  | _, _, _, _, .nil, e => by simp at e
  | _, _, 0, _, .cons r _, e => by simp at e; subst e; exact ⟨_, rfl, r⟩
  | _, _, i + 1, x, .cons _ t, e => by
    obtain ⟨u, h1, h2⟩ := Vals.get (i := i) (x := x) t (by simpa using e)
    exact ⟨u, by simpa using h1, h2⟩
theorem Vals.set {x : V} {u : Value} (r : RelV x u) : ∀ {xs : List V} {us : List Value} (i : Nat), Vals xs us → Vals (xs.set i x) (us.set i u)
  | _, _, _, .nil => .nil
  | _, _, 0, .cons _ t => .cons r t
  | _, _, i + 1, .cons q t => .cons q (Vals.set r i t)
theorem Vals.append : ∀ {xs ys : List V} {us ws : List Value}, Vals xs us → Vals ys ws → Vals (xs ++ ys) (us ++ ws)
  | _, _, _, _, .nil, s => s
  | _, _, _, _, .cons r t, s => .cons r (Vals.append t s)
theorem Vals.take : ∀ {xs : List V} {us : List Value} (n : Nat), Vals xs us → Vals (xs.take n) (us.take n)
  | _, _, 0, _ => .nil
  | _, _, _ + 1, .nil => .nil
  | _, _, n + 1, .cons r t => .cons r (Vals.take n t)
theorem Vals.drop : ∀ {xs : List V} {us : List Value} (n : Nat), Vals xs us → Vals (xs.drop n) (us.drop n)
  | _, _, 0, r => r
  | _, _, _ + 1, .nil => .nil
  | _, _, n + 1, .cons _ t => Vals.drop n t
def RelO : Option V → Option Value → Prop
  | some v, some u => RelV v u
  | none, none => True
  | _, _ => False
def KV {κ : Type} : List (κ × V) → List (κ × Value) → Prop := Paired fun (p : κ × V) (q : κ × Value) => p.1 = q.1 ∧ RelV p.2 q.2
/-- a key of a dict (00_mix): an int or a text -/
def kV : Key → V
  | .inl i => .int i
  | .inr x => .str x
/-- what stands at a tracked address -/
inductive HO where
  /-- a list -/
  | lst (xs : List V)
  /-- a tuple (never changes) -/
  | tup (xs : List V)
  /-- a dict whose keys are ints and texts; one whose keys are tuples of ints and texts (the empty one is both) -/
  | dK (kvs : List (Key × V)) | dT (kvs : List (List Key × V))
  /-- a set of ints: its members, its size -/
  | set (S : Int → Bool) (n : Nat)
  /-- an instance of the class at C, its dict at dx, its attributes -/
  | ins (C dx : Addr) (fs : List (Str × V))
  /-- the dict of the instance at x -/
  | own (x : Addr)
  /-- the dict of an exception -/
  | xd (fs : List (Str × V))
  /-- a bound method, f of x -/
  | met (f x : Addr)
  /-- a range object lo, lo + 1, .. below hi -/
  | rng (lo hi : Int)
  /-- a thing that is known to the object (the script; a dict while a loop walks it): read, never written while it is so -/
  | frz (o : Obj) (u : HO)
  /-- a code object's table -/
  | tbl (ps : Array Value)
  /-- any other thing, by what is true of its one object (a def of one's own: SetO a S n := HO.ext fun h => ..) -/
  | ext (φ : Heap → Prop)
abbrev Hp := Addr → Option HO
def upd (H : Hp) (a : Addr) (o : HO) : Hp := fun b => if b = a then some o else H b
theorem upd_same {H : Hp} {a : Addr} {o : HO} : upd H a o a = some o := by unfold upd; rw [if_pos rfl]
theorem upd_ne {H : Hp} {a b : Addr} {o : HO} (h : b ≠ a) : upd H a o b = H b := by unfold upd; rw [if_neg h]
theorem upd_upd {H : Hp} {a : Addr} {o u : HO} : upd (upd H a o) a u = upd H a u := by
  funext b; unfold upd; split <;> rfl
/-- two objects of different content stand apart -/
theorem ne_of {H : Hp} {a b : Addr} {o u : HO} (h : H a = some o) (h' : H b = some u) (d : o ≠ u) : a ≠ b := by
  intro e; subst e; rw [h] at h'; exact d (Option.some.inj h')
theorem ne_of_none {H : Hp} {a b : Addr} {o : HO} (h : H a = some o) (h' : H b = none) : a ≠ b := by
  intro e; subst e; rw [h] at h'; cases h'
section
variable (P : Program) (w : World)
def ObjOk (H : Hp) (h : Heap) (a : Addr) : HO → Prop
  | .lst xs => xs.length ≤ sizeLine ∧ ∃ (its : List Value) (n : Nat), Vals xs its ∧ h.get? a = some { cls := .type "list", data := .seq its.toArray n }
  | .tup xs => xs.length ≤ sizeLine ∧ ∃ its : List Value, Vals xs its ∧ IsTup h a its.toArray
  | .dK kvs => kvs.length ≤ sizeLine ∧ (a == sysModules) = false ∧ ∃ vs, KV kvs vs ∧ h.DictOf (mixKind P w) a vs
  | .dT kvs => kvs.length ≤ sizeLine ∧ (a == sysModules) = false ∧ ∃ xs : List (List Key × Addr × Value),
      Paired (fun (p : List Key × V) (q : List Key × Addr × Value) => p.1 = q.1 ∧ H q.2.1 = some (.tup (p.1.map kV)) ∧ RelV p.2 q.2.2) kvs xs ∧
      ∃ o es ep, h.get? a = some o ∧ o.ExactDict ∧ o.data = .dict es ep ∧ es.toList = xs.map (entryOfKey (tupleKind (mixKind P w))) ∧ (xs.map (·.1)).Nodup
  | .set S n => h.SetOf (intKind P w) a S n
  | .ins C dx fs => H dx = some (.own a) ∧ fs.length ≤ 1000 ∧ dx ≠ a ∧ h.get? a = some (PySem.W.instObj C dx) ∧
      ∃ mA, h.Ns1 dx mA ∧ (∀ f, RelO (fs.lookup f) (mA f)) ∧ PySem.Within mA (fs.map (·.1))
  | .own _ => ∃ o, h.get? a = some o
  | .xd fs => ∃ mA, h.Ns1 a mA ∧ ∀ f, RelO (fs.lookup f) (mA f)
  | .rng lo hi => ∃ t u v, h.get? a = some { cls := .type "range", data := .fields #[.int lo t, .int hi u, .int 1 v] }
  | .frz o u => h.get? a = some o ∧ ObjOk H h a u
  | .tbl ps => h.get? a = some { cls := .none, data := .fields ps }
  | .met f x => h.get? a = some (PySem.W.methodObj (.ref f) (.ref x))
  | .ext φ => φ h ∧ (∃ o, h.get? a = some o) ∧ ∀ h1 h2 : Heap, φ h1 → (∀ o, h1.get? a = some o → h2.get? a = some o) → φ h2
/-- the abstract heap is held -/
def HOk (H : Hp) (h : Heap) : Prop := ∀ a o, H a = some o → ObjOk P w H h a o
end
section
variable {P : Program} {w : World} {H H' : Hp} {h h' : Heap} {a : Addr} {o : HO}
theorem ObjOk.lt (x : ObjOk P w H h a o) : a < h.objs.size := by
  cases o with
  | lst xs => obtain ⟨_, _, _, _, e⟩ := x; exact Heap.lt_size e
  | tup xs => obtain ⟨_, _, _, p⟩ := x; exact p.lt
  | dK kvs => obtain ⟨_, _, _, _, o, _, _, e, _⟩ := x; exact Heap.lt_size e
  | dT kvs => obtain ⟨_, _, _, _, o, _, _, e, _⟩ := x; exact Heap.lt_size e
  | set S n => obtain ⟨o, _, _, _, e, _⟩ := x; exact Heap.lt_size e
  | ins C dx fs => obtain ⟨_, _, _, e, _⟩ := x; exact Heap.lt_size e
  | own y => obtain ⟨_, e⟩ := x; exact Heap.lt_size e
  | xd fs => obtain ⟨_, ⟨_, _, _, e, _⟩, _⟩ := x; exact Heap.lt_size e
  | rng lo hi => obtain ⟨_, _, _, e⟩ := x; exact Heap.lt_size e
  | frz ob u => obtain ⟨e, _⟩ := x; exact Heap.lt_size e
  | tbl ps => exact Heap.lt_size (show h.get? a = some _ from x)
  | met f y => exact Heap.lt_size (show h.get? a = some _ from x)
  | ext φ => obtain ⟨_, ⟨_, e⟩, _⟩ := x; exact Heap.lt_size e
theorem Paired.mapP {α β : Type} {F G : α → β → Prop} : ∀ {l₁ : List α} {l₂ : List β}, Paired F l₁ l₂ → (∀ a b, F a b → G a b) → Paired G l₁ l₂
  | _, _, .nil, _ => .nil
  | _, _, .cons r t, f => .cons (f _ _ r) (Paired.mapP t f)
/-- what an object's description leans on: its own object, its own dict, the tuples -/
theorem ObjOk.stay (x : ObjOk P w H h a o) (k : ∀ b u, (b = a ∨ H b = some (.own a)) → h.get? b = some u → h'.get? b = some u)
    (ho : ∀ b, H b = some (.own a) → H' b = some (.own a)) (ht : ∀ b xs, H b = some (.tup xs) → H' b = some (.tup xs)) : ObjOk P w H' h' a o := by
  induction o with
  | lst xs => obtain ⟨z, its, n, r, e⟩ := x; exact ⟨z, its, n, r, k _ _ (.inl rfl) e⟩
  | tup xs => obtain ⟨z, its, r, ob, e, c⟩ := x; exact ⟨z, its, r, ob, k _ _ (.inl rfl) e, c⟩
  | dK kvs => obtain ⟨z, y, vs, r, ob, es, ep, e, c⟩ := x; exact ⟨z, y, vs, r, ob, es, ep, k _ _ (.inl rfl) e, c⟩
  | dT kvs =>
    obtain ⟨z, y, xs, r, ob, es, ep, e, c⟩ := x
    exact ⟨z, y, xs, Paired.mapP r fun p q z => ⟨z.1, ht _ _ z.2.1, z.2.2⟩, ob, es, ep, k _ _ (.inl rfl) e, c⟩
  | set S n => obtain ⟨ob, es, ep, t, e, c⟩ := x; exact ⟨ob, es, ep, t, k _ _ (.inl rfl) e, c⟩
  | ins C dx fs =>
    obtain ⟨d, z, ne, e, mA, ⟨od, es, ep, e2, c⟩, r⟩ := x
    exact ⟨ho _ d, z, ne, k _ _ (.inl rfl) e, mA, ⟨od, es, ep, k _ _ (.inr d) e2, c⟩, r⟩
  | own y => obtain ⟨ob, e⟩ := x; exact ⟨ob, k _ _ (.inl rfl) e⟩
  | xd fs => obtain ⟨mA, ⟨od, es, ep, e, c⟩, r⟩ := x; exact ⟨mA, ⟨od, es, ep, k _ _ (.inl rfl) e, c⟩, r⟩
  | rng lo hi => obtain ⟨t, u, v, e⟩ := x; exact ⟨t, u, v, k _ _ (.inl rfl) e⟩
  | frz ob u ih => obtain ⟨e, q⟩ := x; exact ⟨k _ _ (.inl rfl) e, ih q⟩
  | tbl ps =>
    have e : h.get? a = some { cls := .none, data := .fields ps } := x
    show h'.get? a = some { cls := .none, data := .fields ps }
    exact k a _ (.inl rfl) e
  | met f y =>
    have e : h.get? a = some (PySem.W.methodObj (.ref f) (.ref y)) := x
    show h'.get? a = some (PySem.W.methodObj (.ref f) (.ref y))
    exact k a _ (.inl rfl) e
  | ext φ => obtain ⟨p, ⟨o, e⟩, st⟩ := x; exact ⟨st _ _ p fun o q => k _ _ (.inl rfl) q, ⟨o, k _ _ (.inl rfl) e⟩, st⟩
theorem HOk.lt (x : HOk P w H h) (e : H a = some o) : a < h.objs.size := (x a o e).lt
theorem HOk.fresh (x : HOk P w H h) (e : h.objs.size ≤ a) : H a = none := by
  cases q : H a with
  | none => rfl
  | some u => exact absurd (Nat.lt_of_lt_of_le (x.lt q) e) (Nat.lt_irrefl _)
/-- every object of the heap is kept -/
theorem HOk.kept (x : HOk P w H h) (k : ∀ b u, h.get? b = some u → h'.get? b = some u) : HOk P w H h' := fun a o e =>
  (x a o e).stay (fun b u _ q => k b u q) (fun _ q => q) fun _ _ q => q
/-- a new object is laid and tracked -/
theorem HOk.laid (x : HOk P w H h) (k : ∀ b u, h.get? b = some u → h'.get? b = some u) (hp : h.objs.size ≤ a) (new : ObjOk P w (upd H a o) h' a o) : HOk P w (upd H a o) h' := fun b u e => by
  have hn := x.fresh hp
  by_cases hb : b = a
  · subst hb; rw [upd_same] at e; cases e; exact new
  · rw [upd_ne hb] at e
    exact (x b u e).stay (fun c v _ q => k c v q) (fun c q => by rw [upd_ne (ne_of_none q hn)]; exact q) fun c xs q => by rw [upd_ne (ne_of_none q hn)]; exact q
end
/-- what may be read as u: it is u, or a known u -/
def Rd (H : Hp) (a : Addr) (u : HO) : Prop := H a = some u ∨ ∃ o, H a = some (.frz o u)
theorem Rd.ok {P : Program} {w : World} {H : Hp} {h : Heap} {a : Addr} {u : HO} (r : Rd H a u) (x : HOk P w H h) : ObjOk P w H h a u := by
  rcases r with r | ⟨o, r⟩
  · exact x a u r
  · obtain ⟨_, q⟩ := x a _ r
    exact q
/-- what may be written -/
def Mut : Option HO → Prop
  | some (.lst _) => True
  | some (.dK _) => True
  | some (.dT _) => True
  | some (.set _ _) => True
  | some (.ins _ _ _) => True
  | some (.ext _) => True
  | _ => False
section
variable {P : Program} {w : World} {H : Hp} {h h' : Heap} {x e : Addr} {o' : HO}
/-- the object at e is changed: x itself, or the dict of the instance x -/
theorem HOk.write (ok : HOk P w H h) (mu : Mut (H x)) (he : e = x ∨ H e = some (.own x)) (k : ∀ b u, b ≠ e → h.get? b = some u → h'.get? b = some u) (heo : ∃ u, h'.get? e = some u)
    (new : ObjOk P w (upd H x o') h' x o') : HOk P w (upd H x o') h' := fun b u q => by
  have nown : ∀ c y, H c = some (.own y) → c ≠ x := fun c y r z => by subst z; rw [r] at mu; exact mu
  have ntup : ∀ c xs, H c = some (.tup xs) → c ≠ x := fun c xs r z => by subst z; rw [r] at mu; exact mu
  by_cases hb : b = x
  · subst hb; rw [upd_same] at q; cases q; exact new
  · rw [upd_ne hb] at q
    by_cases hbe : b = e
    · have q' : H b = some (.own x) := by
        rcases he with z | z
        · exact absurd (hbe.trans z) hb
        · rw [hbe]; exact z
      rw [q] at q'; cases q'
      obtain ⟨v, hv⟩ := heo
      exact ⟨v, by rw [hbe]; exact hv⟩
    · refine (ok b u q).stay (fun c v hc r => k c v ?_ r) (fun c r => by rw [upd_ne (nown c b r)]; exact r) fun c xs r => by rw [upd_ne (ntup c xs r)]; exact r
      rcases hc with rfl | hc
      · exact hbe
      · rintro rfl
        rcases he with z | z
        · exact nown c b hc z
        · rw [hc] at z; cases z; exact hb rfl
end
/-! ### kept unless tracked; of the frames at fs (the callers') the slots may change (an exception that passes writes there); of the records at ex (iterators) nothing is said -/
structure Un (fs ex : List Addr) (H H' : Hp) (h h' : Heap) : Prop where
  keep : ∀ b o, h.get? b = some o → H b = none → b ∉ fs → b ∉ ex → h'.get? b = some o
  slot : ∀ b o, h.get? b = some o → H b = none → b ∈ fs → b ∉ ex → ∃ sl, h'.get? b = some { o with slots := sl }
  free : ∀ b o, h.get? b = some o → H b = none → b ∉ ex → H' b = none
  there : ∀ b o, h.get? b = some o → b ∉ ex → ∃ o', h'.get? b = some o'
  tups : ∀ b xs, H b = some (.tup xs) → H' b = some (.tup xs)
  frzs : ∀ b o u, H b = some (.frz o u) → H' b = some (.frz o u)
  tbls : ∀ b ps, H b = some (.tbl ps) → ∃ more, H' b = some (.tbl (ps ++ more))
section
variable {fs fs' ex ex' : List Addr} {H H1 H2 : Hp} {h h1 h2 h' : Heap} {a x e : Addr} {o : HO}
theorem Un.any (u : Un fs ex H H1 h h1) {b : Addr} {ob : Obj} (q : h.get? b = some ob) (n : H b = none) (hx : b ∉ ex) : ∃ sl, h1.get? b = some { ob with slots := sl } := by
  by_cases hb : b ∈ fs
  · exact u.slot b ob q n hb hx
  · exact ⟨ob.slots, u.keep b ob q n hb hx⟩
theorem Un.kept (k : ∀ b u, h.get? b = some u → h'.get? b = some u) : Un fs ex H H h h' :=
  ⟨fun b ob q _ _ _ => k b ob q, fun b ob q _ _ _ => ⟨ob.slots, k b ob q⟩, fun _ _ _ n _ => n, fun b ob q _ => ⟨ob, k b ob q⟩, fun _ _ q => q, fun _ _ _ q => q, fun _ ps q => ⟨#[], by rw [q]; simp⟩⟩
theorem Un.refl : Un fs ex H H h h := Un.kept fun _ _ q => q
theorem Un.laid (k : ∀ b u, h.get? b = some u → h'.get? b = some u) (hp : h.objs.size ≤ a) (hn : H a = none) : Un fs ex H (upd H a o) h h' where
  keep := fun b u q _ _ _ => k b u q
  slot := fun b u q _ _ _ => ⟨u.slots, k b u q⟩
  free := fun b u q n _ => by rw [upd_ne (Nat.ne_of_lt (Nat.lt_of_lt_of_le (Heap.lt_size q) hp))]; exact n
  there := fun b u q _ => ⟨u, k b u q⟩
  tups := fun b xs q => by rw [upd_ne (ne_of_none q hn)]; exact q
  frzs := fun b u xs q => by rw [upd_ne (ne_of_none q hn)]; exact q
  tbls := fun b ps q => ⟨#[], by rw [upd_ne (ne_of_none q hn), q]; simp⟩
theorem Un.write (mu : Mut (H x)) (he : e = x ∨ H e = some (.own x)) (k : ∀ b u, b ≠ e → h.get? b = some u → h'.get? b = some u) (heo : ∃ u, h'.get? e = some u) : Un fs ex H (upd H x o) h h' := by
  have hx : ∀ b, H b = none → b ≠ x := fun b n z => by subst z; rw [n] at mu; exact mu
  have hb : ∀ b, H b = none → b ≠ e := fun b n z => by
    subst z
    rcases he with r | r
    · exact hx b n r
    · rw [n] at r; cases r
  have hm : ∀ b u, H b = some u → ¬ Mut (some u) → b ≠ x := fun b u q nm z => by subst z; rw [q] at mu; exact nm mu
  refine ⟨fun b u q n _ _ => k b u (hb b n) q, fun b u q n _ _ => ⟨u.slots, k b u (hb b n) q⟩, fun b u q n _ => by rw [upd_ne (hx b n)]; exact n, fun b u q _ => ?_,
    fun b xs q => by rw [upd_ne (hm b _ q fun z => z)]; exact q, fun b u xs q => by rw [upd_ne (hm b _ q fun z => z)]; exact q, fun b ps q => ⟨#[], by rw [upd_ne (hm b _ q fun z => z), q]; simp⟩⟩
  by_cases hbe : b = e
  · subst hbe; exact heo
  · exact ⟨u, k b u hbe q⟩
end
/-! ### the heap without what is tracked -/
def trk (h : Heap) (H : Hp) : List Addr := (List.range h.objs.size).filter fun a => (H a).isSome
def hidT (h : Heap) (H : Hp) : Heap := PySem.W.hideAll h (trk h H)
theorem hidT_size (h : Heap) (H : Hp) : (hidT h H).objs.size = h.objs.size := PySem.W.hideAll_size _ _
theorem hidT_get {h : Heap} {H : Hp} {b : Addr} {o : Obj} (e : h.get? b = some o) (n : H b = none) : (hidT h H).get? b = some o :=
  PySem.W.hideAll_get _ e fun hm => by
    have q : (H b).isSome = true := (List.mem_filter.mp hm).2
    rw [n] at q; simp at q
theorem of_hidT {h : Heap} {H : Hp} {b : Addr} {o : Obj} (e : (hidT h H).get? b = some o) : h.get? b = some o ∧ H b = none := by
  have e' : h.get? b = some o := PySem.W.of_hideAll (trk h H) e
  refine ⟨e', ?_⟩
  cases q : H b with
  | none => rfl
  | some x =>
    have hm : b ∈ trk h H := List.mem_filter.mpr ⟨List.mem_range.mpr (Heap.lt_size e'), by simp [q]⟩
    have z : (hidT h H).get? b = none := PySem.W.hideAll_none (trk h H) hm
    rw [z] at e; cases e
/-! ### OpenK's ledger, filled with every new object but one -/
end L2
namespace L2
open PySem PySem.Spec PyProof.Rows
/-- the module's facts, over the base: the heap at the law's entry without what is tracked there -/
structure Mod (K : PySem.W.Frag) (mg : Str → Option Value) (base : Heap) : Prop where
  kin : K.In base
  glob : base.Ns mainGlobals mg
  blt : ∃ mb, base.Ns builtinsNs mb ∧ ∀ x : Str, x ≠ "__name__" → mb x = bootBuiltins x
  nolimit : base.NoLimit
/-- the context: a def's body (or a comprehension's block) running. base: fixed through the whole law; s₀, H₀: the entry; outer: the frames whose slots others may change (a def's callers); stack: all frames that run;
   ex: iterators that were made ahead of the entry and are walked here (a comprehension's); fn: the names whose cells were made at the entry (a def: all; a comprehension's block: its own); calm: not within an except suite; pn: pins that every state bears; xe: what is wanted of an exception that leaves the code -/
structure Cx where
  prog : Program
  w : World
  K : PySem.W.Frag
  mg : Str → Option Value
  base : Heap
  A : Around
  N : List Str
  s_0 : Shared
  H_0 : Hp
  env : Env
  outer : List Env
  stack : List Env
  ex : List Addr
  fn : Str → Bool
  calm : Bool
  pn : List (Addr × Obj)
  xe : Value → Shared → Prop
/-- the callers' frames -/
def frs (l : List Env) : List Addr := l.filterMap (·.frame)
abbrev Cx.fs (X : Cx) : List Addr := frs X.outer
def Vis (sc : Scope) (x : Str) : Prop := sc.names.lookup x = some .local ∨ sc.names.lookup x = some .cell ∨ sc.names.lookup x = some .free
def Loc (sc : Scope) (x : Str) : Prop := sc.names.lookup x = some .local ∨ sc.names.lookup x = some .cell
def Look (env : Env) (h : Heap) (m : Str → Option Value) (x : Str) (u : Value) : Prop :=
  (env.kindOf x = some .local ∧ m x = some u) ∨ ((env.kindOf x = some .cell ∨ env.kindOf x = some .free) ∧ ∃ c, env.cells.lookup x = some c ∧ h.IsCell c (some u))
structure Cx.Ok (X : Cx) : Prop where
  mod : Mod X.K X.mg X.base
  kind : X.env.scope.kind = .function
  glob : X.env.globals = mainGlobals
  blt : X.env.builtins = builtinsNs
  above : X.s_0.heap.objs.size ≤ X.env.locals
  inj : ∀ x y c, X.env.cells.lookup x = some c → X.env.cells.lookup y = some c → x = y
  has : ∀ x, (X.env.kindOf x = some .cell ∨ X.env.kindOf x = some .free) → ∃ c, X.env.cells.lookup x = some c
  cab : ∀ x c, X.fn x = true → X.env.cells.lookup x = some c → X.s_0.heap.objs.size ≤ c
  hd : X.calm = true → X.A.handled = none
  frames : X.A.frames = some X.stack
  stk : X.stack = X.outer ∨ (X.stack = X.env :: X.outer ∧ X.env.frame = some X.env.locals)
  exf : ∀ b ∈ X.ex, b ≠ X.env.locals ∧ ∀ x c, X.env.cells.lookup x = some c → c ≠ b
  bs : ∀ b o, X.base.get? b = some o → X.s_0.heap.get? b = some o ∧ X.H_0 b = none
  bsz : X.base.objs.size ≤ X.s_0.heap.objs.size
  noex : ∀ b o, X.base.get? b = some o → b ∉ X.ex
  exfs : ∀ b ∈ X.ex, b ∉ X.fs
  funs : X.s_0.heap.FunFrames X.base X.outer
  frf : ∀ b ∈ X.fs, X.H_0 b = none
structure Inv (X : Cx) (pins : List (Addr × Obj)) (σ : List (Option V)) (H : Hp) (s : Shared) : Prop where
  ok : X.Ok
  os : s.os = X.s_0.os
  bare : AllBare s.gens
  base : Un X.fs X.ex X.H_0 H X.s_0.heap s.heap
  loc : ∃ m, s.heap.Ns X.env.locals m ∧ ∀ (i : Nat) (x : Str) (v : V), X.N[i]? = some x → σ[i]? = some (some v) → Vis X.env.scope x → ∃ u, RelV v u ∧ Look X.env s.heap m x u
  cell : ∀ x c, X.env.cells.lookup x = some c → ∃ v, s.heap.IsCell c v
  free : H X.env.locals = none
  freeC : ∀ x c, X.env.cells.lookup x = some c → H c = none
  pin : ∀ p ∈ X.pn ++ pins, s.heap.get? p.1 = some p.2 ∧ H p.1 = none ∧ p.1 ≠ X.env.locals ∧ p.1 ∉ X.fs ∧ ∀ v, p.2.data ≠ .cell v
  hok : HOk X.prog X.w H s.heap
  len : σ.length = X.N.length
section
variable {X : Cx} {pins : List (Addr × Obj)} {σ : List (Option V)} {H H' : Hp} {s : Shared} {h' : Heap}
theorem Cx.Ok.nofr (ok : X.Ok) {b : Addr} {o : Obj} (e : X.base.get? b = some o) : b ∉ X.fs := fun hb => by
  have := (ok.funs.mem hb).1
  rw [e] at this; cases this
theorem Inv.bs (I : Inv X pins σ H s) : ∀ b o, X.base.get? b = some o → s.heap.get? b = some o ∧ H b = none := fun b o e =>
  ⟨I.base.keep b o (I.ok.bs b o e).1 (I.ok.bs b o e).2 (I.ok.nofr e) (I.ok.noex b o e), I.base.free b o (I.ok.bs b o e).1 (I.ok.bs b o e).2 (I.ok.noex b o e)⟩
theorem Inv.bk (I : Inv X pins σ H s) : ∀ b o, X.base.get? b = some o → s.heap.get? b = some o := fun b o e => (I.bs b o e).1
theorem Inv.mod (I : Inv X pins σ H s) : Mod X.K X.mg X.base := I.ok.mod
theorem Inv.kIn (I : Inv X pins σ H s) : X.K.In s.heap := I.ok.mod.kin.keeps I.bk
/-- the frame over the base: for OpenK's rules (K.In X.base is I.mod.kin) -/
theorem Inv.fr (I : Inv X pins σ H s) : ∃ m, Fr X.base X.env.locals s.heap m :=
  let ⟨m, hn, _⟩ := I.loc
  ⟨m, hn, I.bk, Nat.le_trans I.ok.bsz I.ok.above⟩
theorem Inv.lt (I : Inv X pins σ H s) : X.env.locals < s.heap.objs.size := let ⟨_, hn, _⟩ := I.loc; hn.lt
theorem Inv.sz (I : Inv X pins σ H s) : X.s_0.heap.objs.size ≤ s.heap.objs.size := Nat.le_trans I.ok.above (Nat.le_of_lt I.lt)
theorem Inv.nofs (I : Inv X pins σ H s) {a : Addr} (h : s.heap.objs.size ≤ a) : a ∉ X.fs := fun hb => by
  obtain ⟨_, o, ho, _⟩ := I.ok.funs.mem hb
  exact absurd (Nat.lt_of_lt_of_le (Heap.lt_size ho) (Nat.le_trans I.sz h)) (Nat.lt_irrefl _)
theorem Inv.cne (I : Inv X pins σ H s) : ∀ x c, X.env.cells.lookup x = some c → c ≠ X.env.locals := fun x c e z => by
  obtain ⟨v, o, ho, hd⟩ := I.cell x c e
  obtain ⟨m, ⟨o', es, ep, ho', hd', _⟩, _⟩ := I.loc
  rw [z, ho'] at ho; cases ho; rw [hd'] at hd; cases hd
theorem Inv.funs (I : Inv X pins σ H s) : s.heap.FunFrames X.base X.outer := by
  have all : ∀ (l : List Env), (∀ b ∈ frs l, b ∈ X.fs) → X.s_0.heap.FunFrames X.base l → s.heap.FunFrames X.base l := by
    intro l
    induction l with
    | nil => intro _ _; trivial
    | cons env r ih =>
      intro hs hl
      obtain ⟨hk, ⟨L, o, hf, hn, ho, hd⟩, hr⟩ := hl
      have hL : L ∈ X.fs := hs L (by unfold frs; rw [List.filterMap_cons, hf]; exact List.mem_cons_self)
      obtain ⟨sl, e⟩ := I.base.slot L o ho (I.ok.frf L hL) hL fun z => I.ok.exfs L z hL
      exact ⟨hk, ⟨L, _, hf, hn, e, hd⟩, ih (fun b hb => hs b (by unfold frs; rw [List.filterMap_cons, hf]; exact List.mem_cons_of_mem _ hb)) hr⟩
  exact all X.outer (fun _ hb => hb) I.ok.funs
/-- the frames that run, for a call -/
theorem Inv.stack (I : Inv X pins σ H s) : s.heap.FunFrames X.base X.stack := by
  rcases I.ok.stk with e | ⟨e, hf⟩
  · rw [e]; exact I.funs
  · rw [e]
    obtain ⟨m, hn, _⟩ := I.loc
    refine .cons (by rw [I.ok.kind]; decide) hf hn ?_ I.funs
    exact Heap.get?_none_of_le (Nat.le_trans I.ok.bsz I.ok.above)
theorem Inv.stkSub (I : Inv X pins σ H s) : ∀ b ∈ frs X.stack, b ∈ X.env.locals :: X.fs := fun b hb => by
  rcases I.ok.stk with e | ⟨e, hf⟩
  · rw [e] at hb; exact List.mem_cons_of_mem _ hb
  · rw [e] at hb
    unfold frs at hb
    rw [List.filterMap_cons, hf] at hb
    exact hb
theorem Inv.stkFree (I : Inv X pins σ H s) : ∀ b ∈ frs X.stack, H b = none := fun b hb => by
  rcases List.mem_cons.mp (I.stkSub b hb) with e | hb
  · rw [e]; exact I.free
  · obtain ⟨_, o, ho, _⟩ := I.ok.funs.mem hb
    exact I.base.free b o ho (I.ok.frf b hb) fun z => I.ok.exfs b z hb
/-- THE STEP: the untracked objects but the frame and the records at ch are kept (the callers' frames up to slots), the frame's map is kept, the new abstract heap is held -/
theorem Inv.step {g' : Array GenState} {t' : Nat} {d' : Drawn} {ch : List Addr} (I : Inv X pins σ H s)
    (hch : ∀ b ∈ ch, (b ∈ X.ex ∨ X.s_0.heap.objs.size ≤ b) ∧ b ≠ X.env.locals ∧ (∀ x c, X.env.cells.lookup x = some c → c ≠ b) ∧ ∀ p ∈ X.pn ++ pins, p.1 ≠ b)
    (keep : ∀ b o, b ≠ X.env.locals → b ∉ X.fs → b ∉ ch → s.heap.get? b = some o → H b = none → h'.get? b = some o)
    (slot : ∀ b o, b ≠ X.env.locals → b ∈ X.fs → b ∉ ch → s.heap.get? b = some o → H b = none → ∃ sl, h'.get? b = some { o with slots := sl }) (free : ∀ b o, b ∉ ch → s.heap.get? b = some o → H b = none → H' b = none)
    (there : ∀ b o, b ∉ ch → s.heap.get? b = some o → ∃ o', h'.get? b = some o')
    (tups : ∀ b xs, H b = some (.tup xs) → H' b = some (.tup xs)) (frzs : ∀ b o u, H b = some (.frz o u) → H' b = some (.frz o u)) (tbls : ∀ b ps, H b = some (.tbl ps) → ∃ more, H' b = some (.tbl (ps ++ more)))
    (ns : ∀ m, s.heap.Ns X.env.locals m → h'.Ns X.env.locals m) (hok : HOk X.prog X.w H' h') (hg : AllBare g') :
    Inv X pins σ H' { s with heap := h', gens := g', drawn := d', toks := t' } := by
  have neL : ∀ b o, X.s_0.heap.get? b = some o → b ≠ X.env.locals := fun b o e => Nat.ne_of_lt (Nat.lt_of_lt_of_le (Heap.lt_size e) I.ok.above)
  have neC : ∀ b o, X.s_0.heap.get? b = some o → b ∉ X.ex → b ∉ ch := fun b o e hx hb => by
    rcases (hch b hb).1 with z | z
    · exact hx z
    · exact absurd (Nat.lt_of_lt_of_le (Heap.lt_size e) z) (Nat.lt_irrefl _)
  have cellK : ∀ x c, X.env.cells.lookup x = some c → ∀ v, s.heap.IsCell c v → h'.IsCell c v := fun x c e v ⟨o, ho, hd⟩ => by
    have nch : c ∉ ch := fun z => (hch c z).2.2.1 x c e rfl
    by_cases hc : c ∈ X.fs
    · obtain ⟨sl, q⟩ := slot c o (I.cne x c e) hc nch ho (I.freeC x c e)
      exact ⟨_, q, hd⟩
    · exact ⟨o, keep c o (I.cne x c e) hc nch ho (I.freeC x c e), hd⟩
  refine ⟨I.ok, I.os, hg, ⟨fun b o e n hb hx => ?_, fun b o e n hb hx => ?_, fun b o e n hx => ?_, fun b o e hx => ?_, fun b xs e => tups b xs (I.base.tups b xs e), fun b o xs e => frzs b o xs (I.base.frzs b o xs e), fun b ps e => ?_⟩, ?_, fun x c e => ?_, ?_, fun x c e => ?_, fun p hp => ?_, hok, I.len⟩
  · exact keep b o (neL b o e) hb (neC b o e hx) (I.base.keep b o e n hb hx) (I.base.free b o e n hx)
  · obtain ⟨sl, e1⟩ := I.base.slot b o e n hb hx
    obtain ⟨sl', e2⟩ := slot b _ (neL b o e) hb (neC b o e hx) e1 (I.base.free b o e n hx)
    exact ⟨sl', e2⟩
  · obtain ⟨o', e1⟩ := I.base.there b o e hx
    exact free b o' (neC b o e hx) e1 (I.base.free b o e n hx)
  · obtain ⟨o', e1⟩ := I.base.there b o e hx
    exact there b o' (neC b o e hx) e1
  · obtain ⟨m1, e1⟩ := I.base.tbls b ps e
    obtain ⟨m2, e2⟩ := tbls b _ e1
    exact ⟨m1 ++ m2, by rw [e2, Array.append_assoc]⟩
  · obtain ⟨m, hn, hl⟩ := I.loc
    refine ⟨m, ns m hn, fun i x v e1 e2 e3 => ?_⟩
    obtain ⟨u, r, l⟩ := hl i x v e1 e2 e3
    refine ⟨u, r, ?_⟩
    rcases l with l | ⟨k, c, e, z⟩
    · exact .inl l
    · exact .inr ⟨k, c, e, cellK x c e _ z⟩
  · obtain ⟨v, z⟩ := I.cell x c e
    exact ⟨v, cellK x c e v z⟩
  · obtain ⟨m, ⟨o, _, _, ho, _⟩, _⟩ := I.loc
    exact free _ o (fun z => (hch _ z).2.1 rfl) ho I.free
  · obtain ⟨v, o, ho, hd⟩ := I.cell x c e
    exact free c o (fun z => (hch c z).2.2.1 x c e rfl) ho (I.freeC x c e)
  · obtain ⟨e, n, ne, nf, d⟩ := I.pin p hp
    have nch : p.1 ∉ ch := fun z => (hch p.1 z).2.2.2 p hp rfl
    exact ⟨keep p.1 p.2 ne nf nch e n, free p.1 p.2 nch e n, ne, nf, d⟩
/-- .. where the frame's own object is kept too -/
theorem Inv.un {t' : Nat} (I : Inv X pins σ H s) (u : Un X.fs [] H H' s.heap h') (hok : HOk X.prog X.w H' h') : Inv X pins σ H' { s with heap := h', toks := t' } := by
  obtain ⟨m, ⟨o, es, ep, ho, r⟩, _⟩ := id I.loc
  obtain ⟨sl, hL⟩ := u.any ho I.free (by simp)
  exact I.step (g' := s.gens) (d' := s.drawn) (ch := []) (fun _ z => nomatch z) (fun b o _ hb _ e n => u.keep b o e n hb (by simp)) (fun b o _ hb _ e n => u.slot b o e n hb (by simp)) (fun b o _ e n => u.free b o e n (by simp)) (fun b o _ e => u.there b o e (by simp)) u.tups u.frzs u.tbls (fun m' hm => by
    obtain ⟨o', es', ep', ho', r'⟩ := hm
    rw [ho] at ho'; cases ho'
    exact ⟨_, es', ep', hL, r'⟩) hok I.bare
/-- behind a call (or a comprehension's block): the slots of this frame may have changed too, the records at ch may have turned -/
theorem Inv.call {g' : Array GenState} {t' : Nat} {d' : Drawn} {ch : List Addr} (I : Inv X pins σ H s) (u : Un (frs X.stack) ch H H' s.heap h') (hok : HOk X.prog X.w H' h') (hg : AllBare g')
    (hch : ∀ b ∈ ch, (b ∈ X.ex ∨ X.s_0.heap.objs.size ≤ b) ∧ b ≠ X.env.locals ∧ (∀ x c, X.env.cells.lookup x = some c → c ≠ b) ∧ ∀ p ∈ X.pn ++ pins, p.1 ≠ b) :
    Inv X pins σ H' { s with heap := h', gens := g', drawn := d', toks := t' } := by
  obtain ⟨m, ⟨o, es, ep, ho, r⟩, _⟩ := id I.loc
  obtain ⟨sl, hL⟩ := u.any ho I.free fun z => (hch _ z).2.1 rfl
  exact I.step (ch := ch) hch (fun b o hL hb hc e n => u.keep b o e n (fun z => (List.mem_cons.mp (I.stkSub b z)).elim hL hb) hc) (fun b o _ _ hc e n => u.any e n hc) (fun b o hc e n => u.free b o e n hc) (fun b o hc e => u.there b o e hc) u.tups u.frzs u.tbls (fun m' hm => by
    obtain ⟨o', es', ep', ho', r'⟩ := hm
    rw [ho] at ho'; cases ho'
    exact ⟨_, es', ep', hL, r'⟩) hok hg
/-- an untracked record of ours (an iterator) has turned -/
theorem Inv.turned {t' : Nat} {it : Addr} (I : Inv X pins σ H s) (k : ∀ b o, b ≠ it → s.heap.get? b = some o → h'.get? b = some o) (hn : H it = none) (hL : it ≠ X.env.locals)
    (h1 : it ∈ X.ex ∨ X.s_0.heap.objs.size ≤ it) (h2 : ∀ x c, X.env.cells.lookup x = some c → c ≠ it) (h3 : ∀ p ∈ X.pn ++ pins, p.1 ≠ it) : Inv X pins σ H { s with heap := h', toks := t' } := by
  have nit : ∀ b u, H b = some u → b ≠ it := fun b u e z => by rw [z, hn] at e; cases e
  refine I.step (g' := s.gens) (d' := s.drawn) (ch := [it]) (fun b hb => ?_) (fun b o _ _ hc e _ => k b o (fun z => hc (by simp [z])) e) (fun b o _ _ hc e _ => ⟨o.slots, k b o (fun z => hc (by simp [z])) e⟩) (fun _ _ _ _ n => n)
    (fun b o hc e => ⟨o, k b o (fun z => hc (by simp [z])) e⟩) (fun _ _ e => e) (fun _ _ _ e => e) (fun b ps e => ⟨#[], by rw [e]; simp⟩) (fun m hm => ?_) (fun b u e => ?_) I.bare
  · have e : b = it := by simpa using hb
    subst e
    exact ⟨h1, hL, h2, h3⟩
  · obtain ⟨o, es, ep, ho, r⟩ := hm
    exact ⟨o, es, ep, k _ o (Ne.symm hL) ho, r⟩
  · refine (I.hok b u e).stay (fun c v hc q => k c v ?_ q) (fun _ q => q) fun _ _ q => q
    rcases hc with z | z
    · rw [z]; exact nit b u e
    · exact nit c _ z
theorem Inv.tok (I : Inv X pins σ H s) (t : Nat) : Inv X pins σ H { s with toks := t } := I.un (h' := s.heap) (t' := t) Un.refl I.hok
/-- all objects kept -/
theorem Inv.kept {t' : Nat} (I : Inv X pins σ H s) (k : ∀ b u, s.heap.get? b = some u → h'.get? b = some u) : Inv X pins σ H { s with heap := h', toks := t' } := I.un (Un.kept k) (I.hok.kept k)
/-- a new object laid and tracked -/
theorem Inv.laid {a : Addr} {o : HO} {t' : Nat} (I : Inv X pins σ H s) (k : ∀ b u, s.heap.get? b = some u → h'.get? b = some u) (hp : s.heap.objs.size ≤ a) (new : ObjOk X.prog X.w (upd H a o) h' a o) :
    Inv X pins σ (upd H a o) { s with heap := h', toks := t' } := I.un (Un.laid k hp (I.hok.fresh hp)) (I.hok.laid k hp new)
/-- an object written -/
theorem Inv.write {x e : Addr} {o : HO} {t' : Nat} (I : Inv X pins σ H s) (mu : Mut (H x)) (he : e = x ∨ H e = some (.own x)) (k : ∀ b u, b ≠ e → s.heap.get? b = some u → h'.get? b = some u) (heo : ∃ u, h'.get? e = some u)
    (new : ObjOk X.prog X.w (upd H x o) h' x o) : Inv X pins σ (upd H x o) { s with heap := h', toks := t' } := I.un (Un.write mu he k heo) (I.hok.write mu he k heo new)
/-- forgetting slots, pins -/
theorem Inv.weak {σ' : List (Option V)} (I : Inv X pins σ H s) (hl : σ'.length = σ.length) (w : ∀ (i : Nat) v, σ'[i]? = some (some v) → σ[i]? = some (some v)) : Inv X pins σ' H s :=
  ⟨I.ok, I.os, I.bare, I.base, let ⟨m, hn, hl'⟩ := I.loc; ⟨m, hn, fun i x v e1 e2 e3 => hl' i x v e1 (w i v e2) e3⟩, I.cell, I.free, I.freeC, I.pin, I.hok, hl.trans I.len⟩
theorem Inv.pins_of {pins' : List (Addr × Obj)} (I : Inv X pins σ H s) (h : ∀ p ∈ pins', s.heap.get? p.1 = some p.2 ∧ H p.1 = none ∧ p.1 ≠ X.env.locals ∧ p.1 ∉ X.fs ∧ ∀ v, p.2.data ≠ .cell v) : Inv X pins' σ H s :=
  ⟨I.ok, I.os, I.bare, I.base, I.loc, I.cell, I.free, I.freeC, fun p hp => (List.mem_append.mp hp).elim (fun z => I.pin p (List.mem_append_left _ z)) (h p), I.hok, I.len⟩
theorem nodup_ix {N : List Str} (hN : N.Nodup) {i j : Nat} {x : Str} (a : N[i]? = some x) (b : N[j]? = some x) : i = j := by
  obtain ⟨h1, e1⟩ := List.getElem?_eq_some_iff.mp a
  obtain ⟨h2, e2⟩ := List.getElem?_eq_some_iff.mp b
  exact (List.getElem_inj hN).mp (e1.trans e2.symm)
/-- a name is stored; what changed -/
theorem store_ok2 {M : Model} {A : Around} {E : Value → Shared → Prop} {i : Nat} {x : Str} {v : V} {u : Value} {Q : Unit → Shared → Prop} (I : Inv X pins σ H s) (hN : X.N.Nodup) (hi : X.N[i]? = some x) (hx : Loc X.env.scope x) (r : RelV v u)
    (h : ∀ s', Inv X pins (σ.set i (some v)) H s' → (∃ a, Heap.SameBut a s.heap s'.heap ∧ (a = X.env.locals ∨ X.env.cells.lookup x = some a)) → Q () s') (hf : X.fn x = true ∨ X.env.scope.names.lookup x = some .local := by first | exact .inl rfl | exact .inr rfl | assumption) : wpAny M A (storeName X.env x u) Q E s := by
  obtain ⟨m, hn, hl⟩ := id I.loc
  have hcls : (X.env.scope.kind == .class || (X.env.scope.kind == .module && X.env.locals != X.env.globals)) = false := by rw [I.ok.kind]; rfl
  have hiσ : i < σ.length := by rw [I.len]; exact (List.getElem?_eq_some_iff.mp hi).1
  have cne := I.cne
  have tracked : ∀ {a : Addr} {h' : Heap}, (∃ o, s.heap.get? a = some o ∧ H a = none) → Heap.SameBut a s.heap h' → HOk X.prog X.w H h' := fun {a h'} ha hs b ob e => by
    obtain ⟨_, _, hfree⟩ := ha
    refine (I.hok b ob e).stay (fun c w' hc q => (hs.2 c ?_).trans q) (fun _ q => q) fun _ _ q => q
    rintro rfl
    rcases hc with rfl | hc
    · rw [hfree] at e; cases e
    · rw [hfree] at hc; cases hc
  rcases hx with hk | hk
  · refine wpAny_storeName_local hk hn (fun h' hn' hs => ?_) hcls
    obtain ⟨oL, _, _, hoL, _⟩ := id hn
    refine h _ ⟨I.ok, I.os, I.bare, ⟨fun b o e n hb hx => ?_, fun b o e n hb hx => ?_, I.base.free, fun b o e hx => ?_, I.base.tups, I.base.frzs, I.base.tbls⟩, ⟨_, hn', fun j y v' e1 e2 e3 => ?_⟩, fun y c e => ?_, I.free, I.freeC, fun p hp => ?_, tracked ⟨oL, hoL, I.free⟩ hs, by simpa using I.len⟩ ⟨_, hs, .inl rfl⟩
    · exact (hs.2 b (Nat.ne_of_lt (Nat.lt_of_lt_of_le (Heap.lt_size e) I.ok.above))).trans (I.base.keep b o e n hb hx)
    · obtain ⟨sl, e1⟩ := I.base.slot b o e n hb hx
      exact ⟨sl, (hs.2 b (Nat.ne_of_lt (Nat.lt_of_lt_of_le (Heap.lt_size e) I.ok.above))).trans e1⟩
    · obtain ⟨o', e1⟩ := I.base.there b o e hx
      exact ⟨o', (hs.2 b (Nat.ne_of_lt (Nat.lt_of_lt_of_le (Heap.lt_size e) I.ok.above))).trans e1⟩
    · by_cases hj : j = i
      · subst hj
        rw [hi] at e1; cases e1
        rw [List.getElem?_set_self hiσ] at e2
        cases e2
        exact ⟨u, r, .inl ⟨hk, by simp⟩⟩
      · rw [List.getElem?_set_ne (Ne.symm hj)] at e2
        obtain ⟨u', r', q⟩ := hl j y v' e1 e2 e3
        refine ⟨u', r', ?_⟩
        rcases q with ⟨k, e⟩ | ⟨k, c, e, z⟩
        · refine .inl ⟨k, ?_⟩
          have : y ≠ x := fun e => hj (nodup_ix hN e1 (e ▸ hi))
          simp [this, e]
        · exact .inr ⟨k, c, e, z.sameBut hs (cne y c e)⟩
    · obtain ⟨w', z⟩ := I.cell y c e
      exact ⟨w', z.sameBut hs (cne y c e)⟩
    · obtain ⟨e, n, ne, nf, d⟩ := I.pin p hp
      exact ⟨(hs.2 p.1 ne).trans e, n, ne, nf, d⟩
  · have hfn : X.fn x = true := by
      rcases hf with z | z
      · exact z
      · rw [z] at hk; cases hk
    obtain ⟨c, hc⟩ := I.ok.has x (.inl hk)
    obtain ⟨w', z⟩ := I.cell x c hc
    refine wpAny_storeName_cell I.ok.kind hk hc z (fun h' hc' hs => ?_)
    obtain ⟨oc, hoc, hocd⟩ := id z
    refine h { s with heap := h' } ⟨I.ok, I.os, I.bare, ⟨fun b o e n hb hx => ?_, fun b o e n hb hx => ?_, I.base.free, fun b o e hx => ?_, I.base.tups, I.base.frzs, I.base.tbls⟩, ⟨m, hn.sameBut hs (Ne.symm (cne x c hc)), fun j y v' e1 e2 e3 => ?_⟩, fun y c' e => ?_, I.free, I.freeC, fun p hp => ?_, tracked ⟨oc, hoc, I.freeC x c hc⟩ hs, by simpa using I.len⟩ ⟨c, hs, .inr hc⟩
    · exact (hs.2 b (Nat.ne_of_lt (Nat.lt_of_lt_of_le (Heap.lt_size e) (I.ok.cab x c hfn hc)))).trans (I.base.keep b o e n hb hx)
    · obtain ⟨sl, e1⟩ := I.base.slot b o e n hb hx
      exact ⟨sl, (hs.2 b (Nat.ne_of_lt (Nat.lt_of_lt_of_le (Heap.lt_size e) (I.ok.cab x c hfn hc)))).trans e1⟩
    · obtain ⟨o', e1⟩ := I.base.there b o e hx
      exact ⟨o', (hs.2 b (Nat.ne_of_lt (Nat.lt_of_lt_of_le (Heap.lt_size e) (I.ok.cab x c hfn hc)))).trans e1⟩
    · by_cases hj : j = i
      · subst hj
        rw [hi] at e1; cases e1
        rw [List.getElem?_set_self hiσ] at e2
        cases e2
        exact ⟨u, r, .inr ⟨.inl hk, c, hc, hc'⟩⟩
      · rw [List.getElem?_set_ne (Ne.symm hj)] at e2
        obtain ⟨u', r', q⟩ := hl j y v' e1 e2 e3
        refine ⟨u', r', ?_⟩
        rcases q with q | ⟨k, c', e, z'⟩
        · exact .inl q
        · refine .inr ⟨k, c', e, z'.sameBut hs ?_⟩
          rintro rfl
          exact hj (nodup_ix hN e1 (I.ok.inj _ _ _ e hc ▸ hi))
    · by_cases hcc : c' = c
      · subst hcc; exact ⟨_, hc'⟩
      · obtain ⟨w2, z2⟩ := I.cell y c' e
        exact ⟨w2, z2.sameBut hs hcc⟩
    · obtain ⟨e, n, ne, nf, d⟩ := I.pin p hp
      refine ⟨(hs.2 p.1 ?_).trans e, n, ne, nf, d⟩
      intro q
      rw [q, hoc] at e
      have q' : oc = p.2 := Option.some.inj e
      exact d w' (by rw [← q']; exact hocd)
theorem store_ok {M : Model} {A : Around} {E : Value → Shared → Prop} {i : Nat} {x : Str} {v : V} {u : Value} {Q : Unit → Shared → Prop} (I : Inv X pins σ H s) (hN : X.N.Nodup) (hi : X.N[i]? = some x) (hx : Loc X.env.scope x) (r : RelV v u)
    (h : ∀ s', Inv X pins (σ.set i (some v)) H s' → Q () s') (hf : X.fn x = true ∨ X.env.scope.names.lookup x = some .local := by first | exact .inl rfl | exact .inr rfl | assumption) : wpAny M A (storeName X.env x u) Q E s :=
  store_ok2 I hN hi hx r (fun s' I' _ => h s' I') hf
/-- behind a call or a block, the state as it is -/
theorem Inv.call' {s' : Shared} {ch : List Addr} (I : Inv X pins σ H s) (ho : s'.os = s.os) (u : Un (frs X.stack) ch H H' s.heap s'.heap) (hok : HOk X.prog X.w H' s'.heap) (hg : AllBare s'.gens)
    (hch : ∀ b ∈ ch, (b ∈ X.ex ∨ X.s_0.heap.objs.size ≤ b) ∧ b ≠ X.env.locals ∧ (∀ x c, X.env.cells.lookup x = some c → c ≠ b) ∧ ∀ p ∈ X.pn ++ pins, p.1 ≠ b) : Inv X pins σ H' s' := by
  obtain ⟨h', g', d', t', o'⟩ := s'
  have e : o' = s.os := ho
  subst e
  exact I.call (g' := g') (t' := t') (d' := d') u hok hg hch
end
/-! ### the judgements -/
/-- an exception: its class, its own dict's address (where it has one), the abstract heap behind it -/
abbrev XK := Value → Option Addr → Hp → Prop
abbrev St := List (Option V)
abbrev VK := V → Hp → Prop
/-- an expression's reading; a test's; an argument list's -/
abbrev TE := St → Hp → VK → Prop
abbrev TT := St → Hp → (Bool → Hp → Prop) → Prop
abbrev TA := St → Hp → (List V → Hp → Prop) → Prop
/-- what is wanted behind a statement -/
structure Ends where
  nx : St → Hp → Prop
  rt : VK
  bk : St → Hp → Prop := fun _ _ => False
  ct : St → Hp → Prop := fun _ _ => False
abbrev TS := Ends → St → Hp → Prop
def EP (X : Cx) (pins : List (Addr × Obj)) (σ : St) (Q : VK) (u : Value) (s' : Shared) : Prop := ∃ v H', Inv X pins σ H' s' ∧ RelV v u ∧ Q v H'
def TP (X : Cx) (pins : List (Addr × Obj)) (σ : St) (Q : Bool → Hp → Prop) (b : Bool) (s' : Shared) : Prop := ∃ H', Inv X pins σ H' s' ∧ Q b H'
def AP (X : Cx) (pins : List (Addr × Obj)) (σ : St) (Q : List V → Hp → Prop) (us : List Value) (s' : Shared) : Prop := ∃ vs H', Inv X pins σ H' s' ∧ Vals vs us ∧ Q vs H'
def SP (X : Cx) (pins : List (Addr × Obj)) (D : Ends) (f : Flow) (s' : Shared) : Prop :=
  match f with
  | .next => ∃ σ' H', Inv X pins σ' H' s' ∧ D.nx σ' H'
  | .brk => ∃ σ' H', Inv X pins σ' H' s' ∧ D.bk σ' H'
  | .cont => ∃ σ' H', Inv X pins σ' H' s' ∧ D.ct σ' H'
  | .ret u => ∃ v σ' H', Inv X pins σ' H' s' ∧ RelV v u ∧ D.rt v H'
def PE (X : Cx) (e : Expr) (t : TE) : Prop :=
  ∀ (pins : List (Addr × Obj)) (s : Shared) (σ : St) (H : Hp) (Q : VK), Inv X pins σ H s → t σ H Q → wpAny (model X.prog X.w) X.A (eval e X.env) (EP X pins σ Q) X.xe s
def PT (X : Cx) (e : Expr) (t : TT) : Prop :=
  ∀ (pins : List (Addr × Obj)) (s : Shared) (σ : St) (H : Hp) (Q : Bool → Hp → Prop), Inv X pins σ H s → t σ H Q → wpAny (model X.prog X.w) X.A (isTrue e X.env (eval e X.env)) (TP X pins σ Q) X.xe s
/-- a test whatever its 'whole' is (and, or) -/
def PW (X : Cx) (e : Expr) (t : TT) : Prop :=
  ∀ (whole : Sem Value) (pins : List (Addr × Obj)) (s : Shared) (σ : St) (H : Hp) (Q : Bool → Hp → Prop), Inv X pins σ H s → t σ H Q → wpAny (model X.prog X.w) X.A (isTrue e X.env whole) (TP X pins σ Q) X.xe s
theorem PW.pt {X : Cx} {e : Expr} {t : TT} (h : PW X e t) : PT X e t := h _
/-- an argument list (no star), from the left -/
def PA (X : Cx) (es : List Expr) (t : TA) : Prop :=
  ∀ (pos : Pos) (pins : List (Addr × Obj)) (s : Shared) (σ : St) (H : Hp) (Q : List V → Hp → Prop), Inv X pins σ H s → t σ H Q → wpAny (model X.prog X.w) X.A (spliced (backTo pos (starEach es X.env))) (AP X pins σ Q) X.xe s
def PS (X : Cx) (st : Stmt) (t : TS) : Prop :=
  ∀ (pins : List (Addr × Obj)) (s : Shared) (σ : St) (H : Hp) (D : Ends), Inv X pins σ H s → t D σ H → wpAny (model X.prog X.w) X.A (exec st X.env) (SP X pins D) X.xe s
def PSs (X : Cx) (st : List Stmt) (t : TS) : Prop :=
  ∀ (pins : List (Addr × Obj)) (s : Shared) (σ : St) (H : Hp) (D : Ends), Inv X pins σ H s → t D σ H → wpAny (model X.prog X.w) X.A (execs st X.env) (SP X pins D) X.xe s
/-- weaken the end -/
theorem thn {α : Type} {t : Sem α} {Q Q' : α → Shared → Prop} {M : Model} {A : Around} {E : Value → Shared → Prop} {s : Shared} (h : wpAny M A t Q E s) (hQ : ∀ a s, Q a s → Q' a s) : wpAny M A t Q' E s := wpAny_mono h hQ fun _ _ x => x
end L2
namespace L2
open PySem PySem.Spec PyProof.Rows
section
variable {X : Cx}
/-- two expressions in a row -/
theorem bin {a b : Expr} {ta tb : TE} (ha : PE X a ta) (hb : PE X b tb) {pins : List (Addr × Obj)} {s : Shared} {σ : St} {H : Hp} {R : V → V → Hp → Prop} (I : Inv X pins σ H s) (h : ta σ H fun x H1 => tb σ H1 fun y H2 => R x y H2)
    {α : Type} {Q : α → Shared → Prop} {f : Value → Value → Sem α}
    (hf : ∀ v u s2 x y H2, Inv X pins σ H2 s2 → RelV x v → RelV y u → R x y H2 → wpAny (model X.prog X.w) X.A (f v u) Q X.xe s2) :
    wpAny (model X.prog X.w) X.A (eval a X.env) (fun v s₁ => wpAny (model X.prog X.w) X.A (eval b X.env) (fun u s₂ => wpAny (model X.prog X.w) X.A (f v u) Q X.xe s₂) X.xe s₁) X.xe s := by
  refine thn (ha pins s σ H _ I h) fun v s1 ⟨x, H1, I1, r1, q1⟩ => ?_
  refine thn (hb pins s1 σ H1 _ I1 q1) fun u s2 ⟨y, H2, I2, r2, q2⟩ => ?_
  exact hf v u s2 x y H2 I2 r1 r2 q2
/-! ### names and constants -/
def tVar (i : Nat) : TE := fun σ H Q => ∃ v, σ[i]? = some (some v) ∧ Q v H
def tC (v : V) : TE := fun _ H Q => Q v H
theorem pe_var {i : Nat} {x : Str} {pos : Pos} (hN : X.N[i]? = some x) (hv : Vis X.env.scope x) (hd : (x == ("__debug__" : Str)) = false := by decide) (hcd : (x == ("__classdict__" : Str)) = false := by decide) : PE X (.Name x pos) (tVar i) := by
  intro pins s σ H Q I h
  obtain ⟨v, e, h⟩ := h
  obtain ⟨m, hn, hl⟩ := I.loc
  obtain ⟨u, r, l⟩ := hl i x v hN e hv
  have fin : EP X pins σ Q u s := ⟨v, H, I, r, h⟩
  rcases l with ⟨hk, hm⟩ | ⟨hk, c, hc, hcell⟩
  · exact wpAny_Name (wpAny_loadName_local I.ok.kind hk hn hm fin) hd
  · rcases hk with hk | hk
    · exact wpAny_Name (wpAny_loadName_cell I.ok.kind hk hc hcell fin) hd
    · exact wpAny_Name (wpAny_loadName_free I.ok.kind hk hc hcell fin hcd) hd
theorem pe_int {i j pos} : PE X (.Constant (.int i) j pos) (tC (.int i)) := fun _ _ _ H _ I h => wpAny_Constant_int ⟨.int i, H, I.tok _, ⟨_, rfl⟩, h⟩
theorem pe_bl {b j pos} : PE X (.Constant (.bool b) j pos) (tC (.bl b)) := fun _ _ _ H _ I h => Constant_bool ⟨.bl b, H, I, rfl, h⟩
theorem pe_non {j pos} : PE X (.Constant .none j pos) (tC .non) := fun _ _ _ H _ I h => Constant_none ⟨.non, H, I, rfl, h⟩
/-- a global name of the def -/
def Gl (X : Cx) (x : Str) : Prop := X.env.kindOf x = some .globalImplicit
theorem ld_glob {E : Value → Shared → Prop} {pins : List (Addr × Obj)} {s : Shared} {σ : St} {H : Hp} {x : Str} {u : Value} {pos : Pos} {Q : Value → Shared → Prop} (I : Inv X pins σ H s) (hg : Gl X x) (hm : X.mg x = some u) (h : Q u s)
    (hd : (x == ("__debug__" : Str)) = false := by decide) : wpAny (model X.prog X.w) X.A (eval (.Name x pos) X.env) Q E s :=
  Calls.Name_function_global I.ok.kind hg (Calls.loadGlobal_global (by rw [I.ok.glob]; exact I.mod.glob.keeps I.bk) hm h) hd
theorem ld_blt {E : Value → Shared → Prop} {pins : List (Addr × Obj)} {s : Shared} {σ : St} {H : Hp} {x : Str} {u : Value} {pos : Pos} {Q : Value → Shared → Prop} (I : Inv X pins σ H s) (hg : Gl X x) (hm : X.mg x = none) (hv : bootBuiltins x = some u) (h : Q u s)
    (hn : x ≠ "__name__" := by decide) (hd : (x == ("__debug__" : Str)) = false := by decide) : wpAny (model X.prog X.w) X.A (eval (.Name x pos) X.env) Q E s := by
  obtain ⟨mb, h1, h2⟩ := I.mod.blt
  exact Calls.Name_function_global I.ok.kind hg (Calls.loadGlobal_builtin (by rw [I.ok.glob]; exact I.mod.glob.keeps I.bk) hm (by rw [I.ok.blt]; exact h1.keeps I.bk) ((h2 x hn).trans hv) h) hd
/-- a module's constant, a class, a function, as a value -/
theorem pe_glob {x : Str} {v : V} {u : Value} {pos : Pos} (hg : Gl X x) (hm : X.mg x = some u) (r : RelV v u) (hd : (x == ("__debug__" : Str)) = false := by decide) : PE X (.Name x pos) (tC v) :=
  fun _ _ _ H _ I h => ld_glob I hg hm ⟨v, H, I, r, h⟩ hd
/-! ### arithmetic -/
variable {a b : Expr} {ta tb : TE} {pos : Pos}
/-! ### comparisons -/
def PC (X : Cx) (op : CmpOp) (a b : Expr) (t : TE) : Prop :=
  ∀ (pins : List (Addr × Obj)) (s : Shared) (σ : St) (H : Hp) (Q : VK), Inv X pins σ H s → t σ H Q →
    wpAny (model X.prog X.w) X.A (eval a X.env) (fun v s₁ => wpAny (model X.prog X.w) X.A (eval b X.env) (fun u s₂ => wpAny (model X.prog X.w) X.A (compareOp op v u) (EP X pins σ Q) X.xe s₂) X.xe s₁) X.xe s
theorem nobehind (b : Expr) {op : CmpOp} (h : op ≠ .In) (h2 : op ≠ .NotIn) : behindInMarks op b = false := by
  have e1 : (op == CmpOp.In) = false := by cases op <;> first | rfl | exact absurd rfl h
  have e2 : (op == CmpOp.NotIn) = false := by cases op <;> first | rfl | exact absurd rfl h2
  cases b <;> simp [behindInMarks, e1, e2]
/-- is None -/
def tIsN (ta : TE) : TE := fun σ H Q => ta σ H fun x H1 => Q (.bl (decide (x = .non))) H1
theorem RelV.none_iff {x : V} {v : Value} (r : RelV x v) : (v == Value.none) = decide (x = .non) := by
  cases x with
  | non => cases r; rfl
  | bl _ => cases r; rfl
  | int _ => obtain ⟨t, rfl⟩ := r; rfl
  | str _ => obtain ⟨t, rfl⟩ := r; rfl
  | byt _ => obtain ⟨t, rfl⟩ := r; rfl
  | flt _ => obtain ⟨t, rfl⟩ := r; rfl
  | ref _ => cases r; rfl
  | ty _ => cases r; rfl
theorem pc_isN {j pos'} (ha : PE X a ta) : PC X .Is a (.Constant .none j pos') (tIsN ta) := by
  intro pins s σ H Q I h
  refine thn (ha pins s σ H _ I h) fun v s1 ⟨x, H1, I1, r1, q1⟩ => ?_
  exact Constant_none (is_none_gen ⟨.bl _, H1, I1, by rw [r1.none_iff]; rfl, q1⟩)
/-- a comparison as a value, as a test -/
def tB (t : TE) : TT := fun σ H Q => t σ H fun x H1 => ∃ c, x = .bl c ∧ Q c H1
theorem pt_cmp {op : CmpOp} {t : TE} (h : PC X op a b t) (h1 : behindInMarks op b = false := by first | exact nobehind _ (by decide) (by decide) | rfl) : PT X (.Compare a [op] [b] pos) (tB t) := by
  intro pins s σ H Q I hw
  refine wpAny_isTrue_Compare1 (thn (h pins s σ H _ I hw) fun v s1 h1 => thn h1 fun u s2 h2 => thn h2 fun c s3 ⟨x, H1, I1, r1, q1⟩ => ?_) h1
  obtain ⟨d, rfl, q⟩ := q1
  cases r1
  exact wpAny_truthy_bool ⟨H1, I1, q⟩
/-- an expression whose value is a bool, as a test -/
theorem pt_val {e : Expr} {t : TE} (h : PE X e t) (he : ∀ whole, isTrue e X.env whole = (do let v ← whole; standAt e.pos; holding [v] (truthy v)) := by intro _; rfl) : PT X e (tB t) := by
  intro pins s σ H Q I hw
  refine isTrue_plain (thn (h pins s σ H _ I hw) fun v s1 ⟨x, H1, I1, r1, q1⟩ => ?_) (he _)
  obtain ⟨d, rfl, q⟩ := q1
  cases r1
  exact wpAny_truthy_bool ⟨H1, I1, q⟩
/-! ### and, or, not -/
variable {tA tB' : TT} {rest : List Expr}
def tAnd (t u : TT) : TT := fun σ H Q => t σ H fun c H1 => if c = true then u σ H1 Q else Q false H1
def tOr (t u : TT) : TT := fun σ H Q => t σ H fun c H1 => if c = true then Q true H1 else u σ H1 Q
def tNot (t : TT) : TT := fun σ H Q => t σ H fun c H1 => Q (!c) H1
theorem pw_and1 (ha : PT X a tA) : PW X (.BoolOp .And [a] pos) tA := by
  intro wh pins s σ H Q I h
  refine isTrue_and (thn (ha pins s σ H Q I h) fun c s1 e => ?_)
  cases c with
  | true => exact isTrue_and_nil e
  | false => exact e
theorem pw_or1 (ha : PT X a tA) : PW X (.BoolOp .Or [a] pos) tA := by
  intro wh pins s σ H Q I h
  refine isTrue_or (thn (ha pins s σ H Q I h) fun c s1 e => ?_)
  cases c with
  | false => exact isTrue_or_nil e
  | true => exact e
theorem pw_and (ha : PT X a tA) (hb : PW X (.BoolOp .And (b :: rest) pos) tB') : PW X (.BoolOp .And (a :: b :: rest) pos) (tAnd tA tB') := by
  intro wh pins s σ H Q I h
  refine isTrue_and (thn (ha pins s σ H _ I h) fun c s1 ⟨H1, I1, q1⟩ => ?_)
  cases c with
  | true => exact hb wh pins s1 σ H1 Q I1 q1
  | false => exact ⟨H1, I1, q1⟩
theorem pw_or (ha : PT X a tA) (hb : PW X (.BoolOp .Or (b :: rest) pos) tB') : PW X (.BoolOp .Or (a :: b :: rest) pos) (tOr tA tB') := by
  intro wh pins s σ H Q I h
  refine isTrue_or (thn (ha pins s σ H _ I h) fun c s1 ⟨H1, I1, q1⟩ => ?_)
  cases c with
  | true => exact ⟨H1, I1, q1⟩
  | false => exact hb wh pins s1 σ H1 Q I1 q1
theorem pt_not (ha : PT X a tA) : PT X (.UnaryOp .Not a pos) (tNot tA) := by
  intro pins s σ H Q I h
  exact isTrue_not (ha pins s σ H (fun c H1 => Q (!c) H1) I h)
/-- .. as values (bools) -/
def tAndV (ta tb : TE) : TE := fun σ H Q => ta σ H fun x H1 => ∃ c, x = .bl c ∧ if c = true then tb σ H1 Q else Q (.bl false) H1
theorem pe_one {op} {t : TE} (h : PE X a t) : PE X (.BoolOp op [a] pos) t := fun pins s σ H Q I hw => BoolOp_one (h pins s σ H Q I hw)
theorem pe_and (ha : PE X a ta) (hb : PE X (.BoolOp .And (b :: rest) pos) tb) : PE X (.BoolOp .And (a :: b :: rest) pos) (tAndV ta tb) := by
  intro pins s σ H Q I h
  refine BoolOp_and (thn (ha pins s σ H _ I h) fun v s1 ⟨x, H1, I1, r1, q1⟩ => ?_)
  obtain ⟨c, rfl, q1⟩ := q1
  cases r1
  refine wpAny_truthy_bool ?_
  cases c with
  | true => exact hb pins s1 σ H1 Q I1 q1
  | false => exact ⟨.bl false, H1, I1, rfl, q1⟩
end
end L2
namespace L2
open PySem PySem.Spec PyProof.Rows
/-! ### a list, a tuple that is read: tracked, frozen, or an object of the module -/
def SqL (K : PySem.W.Frag) (H : Hp) (a : Addr) (xs : List V) : Prop :=
  Rd H a (.lst xs) ∨
    ∃ (o : Obj) (its : Array Value) (n : Nat), K.lookup a = some o ∧ o.cls = .type "list" ∧ o.dict = none ∧ o.data = .seq its n ∧ its.size ≤ sizeLine ∧ Vals xs its.toList
def SqT (K : PySem.W.Frag) (H : Hp) (a : Addr) (xs : List V) : Prop :=
  Rd H a (.tup xs) ∨
    ∃ (o : Obj) (its : Array Value) (n : Nat), K.lookup a = some o ∧ o.cls = .type "tuple" ∧ o.data = .seq its n ∧ its.size ≤ sizeLine ∧ Vals xs its.toList
def absV : Value → Option V
  | .none => some .non
  | .bool b => some (.bl b)
  | .int i _ => some (.int i)
  | .str x _ => some (.str x)
  | .bytes b _ => some (.byt b)
  | .float b _ => some (.flt b)
  | .ref a => some (.ref a)
  | .type n => some (.ty n)
  | _ => none
theorem RelV.abs {x : V} {u : Value} (r : RelV x u) : absV u = some x := by
  cases x with
  | non => cases r; rfl
  | bl _ => cases r; rfl
  | int _ => obtain ⟨t, rfl⟩ := r; rfl
  | str _ => obtain ⟨t, rfl⟩ := r; rfl
  | byt _ => obtain ⟨t, rfl⟩ := r; rfl
  | flt _ => obtain ⟨t, rfl⟩ := r; rfl
  | ref _ => cases r; rfl
  | ty _ => cases r; rfl
theorem RelV.inj {x y : V} {u : Value} (r : RelV x u) (q : RelV y u) : x = y := Option.some.inj (r.abs.symm.trans q.abs)
theorem Vals.inj : ∀ {xs ys : List V} {us : List Value}, Vals xs us → Vals ys us → xs = ys
  | _, _, _, .nil, .nil => rfl
  | _, _, _, .cons r t, .cons r' t' => by rw [r.inj r', Vals.inj t t']
section
variable {X : Cx} {pins : List (Addr × Obj)} {σ : St} {H : Hp} {s : Shared} {a : Addr} {xs ys : List V}
theorem SqL.of {K : PySem.W.Frag} (h : H a = some (.lst xs)) : SqL K H a xs := .inl (.inl h)
theorem SqT.of {K : PySem.W.Frag} (h : H a = some (.tup xs)) : SqT K H a xs := .inl (.inl h)
theorem Inv.list (I : Inv X pins σ H s) (h : SqL X.K H a xs) : ∃ its : List Value, Vals xs its ∧ PlainL s.heap a its.toArray ∧ xs.length ≤ sizeLine := by
  rcases h with h | ⟨o, its, n, hk, hc, hd, hs, hz, r⟩
  · obtain ⟨z, its, n, r, e⟩ := h.ok I.hok
    exact ⟨its, r, ⟨_, n, e, rfl, rfl, rfl⟩, z⟩
  · refine ⟨its.toList, r, ⟨o, n, I.kIn a o hk, hc, hd, by simpa using hs⟩, ?_⟩
    have e := r.length
    simp only [Array.length_toList] at e
    omega
theorem Inv.tuple (I : Inv X pins σ H s) (h : SqT X.K H a xs) : ∃ its : List Value, Vals xs its ∧ IsTup s.heap a its.toArray ∧ xs.length ≤ sizeLine := by
  rcases h with h | ⟨o, its, n, hk, hc, hs, hz, r⟩
  · obtain ⟨z, its, r, p⟩ := h.ok I.hok
    exact ⟨its, r, p, z⟩
  · refine ⟨its.toList, r, ⟨o, I.kIn a o hk, hc, n, by simpa using hs⟩, ?_⟩
    have e := r.length
    simp only [Array.length_toList] at e
    omega
theorem Inv.list_inj (I : Inv X pins σ H s) (h : SqL X.K H a xs) (h' : SqL X.K H a ys) : xs = ys := by
  obtain ⟨its, r, ⟨o, n, e, _, _, d⟩, _⟩ := I.list h
  obtain ⟨its', r', ⟨o', n', e', _, _, d'⟩, _⟩ := I.list h'
  rw [e] at e'; cases e'
  rw [d] at d'
  injection d' with d1 _
  have : its = its' := by simpa using congrArg Array.toList d1
  subst this
  exact r.inj r'
end
/-! ### another wish about exceptions -/
abbrev Cx.wish (X : Cx) (E : Value → Shared → Prop) : Cx := { X with xe := E }
/-- no exception leaves -/
abbrev Cx.nox (X : Cx) : Cx := X.wish fun _ _ => False
theorem Cx.Ok.wish {X : Cx} (ok : X.Ok) (E : Value → Shared → Prop) : (X.wish E).Ok :=
  ⟨ok.mod, ok.kind, ok.glob, ok.blt, ok.above, ok.inj, ok.has, ok.cab, ok.hd, ok.frames, ok.stk, ok.exf, ok.bs, ok.bsz, ok.noex, ok.exfs, ok.funs, ok.frf⟩
theorem Cx.Ok.unwish {X : Cx} {E : Value → Shared → Prop} (ok : (X.wish E).Ok) : X.Ok :=
  ⟨ok.mod, ok.kind, ok.glob, ok.blt, ok.above, ok.inj, ok.has, ok.cab, ok.hd, ok.frames, ok.stk, ok.exf, ok.bs, ok.bsz, ok.noex, ok.exfs, ok.funs, ok.frf⟩
section
variable {X : Cx} {pins : List (Addr × Obj)} {σ : St} {H : Hp} {s : Shared} {E : Value → Shared → Prop}
theorem Inv.wish (I : Inv X pins σ H s) (E : Value → Shared → Prop) : Inv (X.wish E) pins σ H s := ⟨I.ok.wish E, I.os, I.bare, I.base, I.loc, I.cell, I.free, I.freeC, I.pin, I.hok, I.len⟩
theorem Inv.unwish (I : Inv (X.wish E) pins σ H s) : Inv X pins σ H s := ⟨I.ok.unwish, I.os, I.bare, I.base, I.loc, I.cell, I.free, I.freeC, I.pin, I.hok, I.len⟩
theorem SP.unwish {D : Ends} {f : Flow} {s' : Shared} (h : SP (X.wish E) pins D f s') : SP X pins D f s' := by
  cases f with
  | next => obtain ⟨σ', H', I, q⟩ := h; exact ⟨σ', H', I.unwish, q⟩
  | brk => obtain ⟨σ', H', I, q⟩ := h; exact ⟨σ', H', I.unwish, q⟩
  | cont => obtain ⟨σ', H', I, q⟩ := h; exact ⟨σ', H', I.unwish, q⟩
  | ret u => obtain ⟨v, σ', H', I, r, q⟩ := h; exact ⟨v, σ', H', I.unwish, r, q⟩
theorem PSs.nox {st : List Stmt} {t : TS} (h : PSs X.nox st t) : PSs X st t := fun pins s σ H D I hw =>
  wpAny_mono (h pins s σ H D (I.wish _) hw) (fun _ _ q => q.unwish) fun _ _ z => False.elim z
end
/-! ### blocks and small statements -/
section
variable {X : Cx} {st : Stmt} {rest : List Stmt} {t u : TS} {e : Expr} {te : TE} {pos : Pos}
def tNext : TS := fun D σ H => D.nx σ H
def tSeq (t u : TS) : TS := fun D σ H => t { D with nx := u D } σ H
theorem pss_nil : PSs X [] tNext := fun _ _ σ H _ I h => wpAny_execs_nil ⟨σ, H, I, h⟩
theorem pss_cons (h1 : PS X st t) (h2 : PSs X rest u) : PSs X (st :: rest) (tSeq t u) := by
  intro pins s σ H D I h
  refine wpAny_execs_cons (thn (h1 pins s σ H { D with nx := u D } I h) fun f s1 q => ?_)
  cases f with
  | next =>
    obtain ⟨σ', H', I', q⟩ := q
    exact h2 pins s1 σ' H' D I' q
  | ret v => exact q
  | brk => exact q
  | cont => exact q
theorem pss_one (h1 : PS X st t) : PSs X [st] t := by
  intro pins s σ H D I h
  refine wpAny_execs_cons (thn (h1 pins s σ H D I h) fun f s1 q => ?_)
  cases f with
  | next => exact wpAny_execs_nil q
  | ret v => exact q
  | brk => exact q
  | cont => exact q
/-- in a def's body nothing is shown -/
theorem Inv.quiet {pins : List (Addr × Obj)} {σ : St} {H : Hp} {s : Shared} (I : Inv X pins σ H s) : interactive X.env = false := by simp [interactive, I.ok.kind]
/-- an expression whose value is dropped -/
def tDrop (te : TE) : TS := fun D σ H => te σ H fun _ H1 => D.nx σ H1
theorem ps_expr (he : PE X e te) (hs : swapsWith e none pos.line X.env = pure false := by rfl) : PS X (.Expr e pos) (tDrop te) := by
  intro pins s σ H D I h
  exact wpAny_Expr_any (thn (he pins s σ H _ I h) fun v s1 ⟨x, H1, I1, r1, q1⟩ => ⟨σ, H1, I1, q1⟩) I.quiet hs
def tRet (te : TE) : TS := fun D σ H => te σ H D.rt
theorem ps_ret (he : PE X e te) : PS X (.Return (some e) pos) (tRet te) := by
  intro pins s σ H D I h
  exact wpAny_Return_some (thn (he pins s σ H _ I h) fun v s1 ⟨x, H1, I1, r1, q1⟩ => ⟨x, σ, H1, I1, r1, q1⟩)
def tIfS (c : TT) (t u : TS) : TS := fun D σ H => c σ H fun b H1 => if b = true then t D σ H1 else u D σ H1
theorem ps_if {c : Expr} {a b : List Stmt} {tc : TT} (hc : PT X c tc) (ha : PSs X a t) (hb : PSs X b u) : PS X (.If c a b pos) (tIfS tc t u) := by
  intro pins s σ H D I h
  refine wpAny_If (thn (hc pins s σ H _ I h) fun d s1 ⟨H1, I1, q1⟩ => ?_)
  cases d with
  | true => exact ha pins s1 σ H1 D I1 q1
  | false => exact hb pins s1 σ H1 D I1 q1
end
/-! ### targets -/
abbrev TG := V → St → Hp → (St → Hp → Prop) → Prop
abbrev TGs := List V → St → Hp → (St → Hp → Prop) → Prop
def PG (X : Cx) (target : Expr) (t : TG) : Prop :=
  ∀ (pins : List (Addr × Obj)) (s : Shared) (σ : St) (H : Hp) (v : V) (u : Value) (Q : St → Hp → Prop), Inv X pins σ H s → RelV v u → t v σ H Q →
    wpAny (model X.prog X.w) X.A (assign target X.env u) (fun _ s' => ∃ σ' H', Inv X pins σ' H' s' ∧ Q σ' H') X.xe s
/-- several targets, one after another -/
def PGs (X : Cx) (ts : List Expr) (t : TGs) : Prop :=
  ∀ (pins : List (Addr × Obj)) (s : Shared) (σ : St) (H : Hp) (vs : List V) (us : List Value) (Q : St → Hp → Prop), Inv X pins σ H s → Vals vs us → t vs σ H Q →
    wpAny (model X.prog X.w) X.A (assignInOrder ((assignEach ts X.env).map (·.2)) us) (fun _ s' => ∃ σ' H', Inv X pins σ' H' s' ∧ Q σ' H') X.xe s
/-- o[i] = v, by values -/
abbrev TSet := V → V → V → Hp → (Hp → Prop) → Prop
def PSet (X : Cx) (t : TSet) : Prop :=
  ∀ (pins : List (Addr × Obj)) (s : Shared) (σ : St) (H : Hp) (o i v : V) (ov iv u : Value) (Q : Hp → Prop), Inv X pins σ H s → RelV o ov → RelV i iv → RelV v u → t o i v H Q →
    wpAny (model X.prog X.w) X.A (setItem ov iv u) (fun _ s' => ∃ H', Inv X pins σ H' s' ∧ Q H') X.xe s
/-- a op= b, by values -/
abbrev TIp := V → V → Hp → VK → Prop
def PIp (X : Cx) (op : Operator) (t : TIp) : Prop :=
  ∀ (pins : List (Addr × Obj)) (s : Shared) (σ : St) (H : Hp) (x y : V) (v u : Value) (Q : VK), Inv X pins σ H s → RelV x v → RelV y u → t x y H Q →
    wpAny (model X.prog X.w) X.A (inplaceOp op v u) (EP X pins σ Q) X.xe s
section
variable {X : Cx} {pos : Pos}
def gName (i : Nat) : TG := fun v σ H Q => Q (σ.set i (some v)) H
theorem pg_name {i : Nat} {x : Str} (hN : X.N.Nodup) (hi : X.N[i]? = some x) (hx : Loc X.env.scope x) (hf : X.fn x = true ∨ X.env.scope.names.lookup x = some .local := by first | exact .inl rfl | exact .inr rfl | assumption) : PG X (.Name x pos) (gName i) := by
  intro pins s σ H v u Q I r h
  exact wpAny_assign_Name (store_ok I hN hi hx r (fun s' I' => ⟨_, H, I', h⟩) hf)
def gNil : TGs := fun vs σ H Q => vs = [] ∧ Q σ H
def gCons (t : TG) (u : TGs) : TGs := fun vs σ H Q => ∃ v r, vs = v :: r ∧ t v σ H fun σ' H' => u r σ' H' Q
theorem pgs_nil : PGs X [] gNil := by
  intro pins s σ H vs us Q I r h
  obtain ⟨e, h⟩ := h
  subst e
  cases r
  exact assignInOrder_nil ⟨σ, H, I, h⟩
theorem pgs_cons {e : Expr} {es : List Expr} {t : TG} {u : TGs} (h1 : PG X e t) (h2 : PGs X es u)
    (hs : (assignEach (e :: es) X.env).map (·.2) = assign e X.env :: (assignEach es X.env).map (·.2) := by rfl) : PGs X (e :: es) (gCons t u) := by
  intro pins s σ H vs us Q I r h
  obtain ⟨v, vr, e1, h⟩ := h
  subst e1
  cases r with
  | cons r rr =>
    rw [hs]
    refine assignInOrder_cons (thn (h1 pins s σ H _ _ _ I r h) fun _ s1 ⟨σ1, H1, I1, q1⟩ => ?_)
    exact h2 pins s1 σ1 H1 _ _ Q I1 rr q1
/-- (a, b, ..) = a tuple of that length -/
def gTup (K : PySem.W.Frag) (n : Nat) (t : TGs) : TG := fun v σ H Q => ∃ a xs, v = .ref a ∧ SqT K H a xs ∧ xs.length = n ∧ t xs σ H Q
theorem pg_tup {es : List Expr} {k : Nat} {t : TGs} {n : Nat} (hc : X.calm = true) (h : PGs X es t)
    (hn : (assignEach es X.env).length = n := by rfl) (hst : (assignEach es X.env).findIdx? (·.1) = none := by rfl) : PG X (.Tuple es k pos) (gTup X.K n t) := by
  intro pins s σ H v u Q I r hw
  obtain ⟨a, xs, e1, hq, hl, hw⟩ := hw
  subst e1
  cases r
  obtain ⟨its, rv, ht, hz⟩ := I.tuple hq
  refine assign_Tuple_tuple (I.ok.hd hc) ht (by simp [hn, ← hl, rv.length]) hst fun h' hx => ?_
  have I1 : Inv X pins σ H { s with heap := h' } := I.kept (t' := s.toks) fun b o e => hx b o (Nat.ne_of_lt (Heap.lt_size e)) e
  exact h pins _ σ H xs _ Q I1 (by simpa using rv) hw
/-- o[i] = .. -/
def gSub (to ti : TE) (t : TSet) : TG := fun v σ H Q => to σ H fun o H1 => ti σ H1 fun i H2 => t o i v H2 fun H3 => Q σ H3
theorem pg_sub {o i : Expr} {to ti : TE} {t : TSet} (ho : PE X o to) (hi : PE X i ti) (hs : PSet X t)
    (ha : ∀ v, assign (.Subscript o i pos) X.env v = (do
      let ov ← holding [v] (eval o X.env)
      let iv ← holding [v, ov] (eval i X.env)
      standAt pos
      holding [v, ov, iv] (setItem ov iv v)
      release [v, ov, iv] []) := by intro _; rfl) : PG X (.Subscript o i pos) (gSub to ti t) := by
  intro pins s σ H v u Q I r h
  rw [ha]
  refine wpAny_bind (wpAny_holding (thn (ho pins s σ H _ I h) fun ov s1 ⟨x, H1, I1, r1, q1⟩ => ?_))
  refine wpAny_bind (wpAny_holding (thn (hi pins s1 σ H1 _ I1 q1) fun iv s2 ⟨y, H2, I2, r2, q2⟩ => ?_))
  refine wpAny_bind (wpAny_standAt (wpAny_bind (wpAny_holding (thn (hs pins s2 σ H2 x y v ov iv u _ I2 r1 r2 r q2) fun _ s3 ⟨H3, I3, q3⟩ => ?_))))
  exact wpAny_release ⟨σ, H3, I3, q3⟩
/-- target = value -/
def tAsg (te : TE) (g : TG) : TS := fun D σ H => te σ H fun x H1 => g x σ H1 D.nx
theorem ps_asg {tg e : Expr} {te : TE} {g : TG} (he : PE X e te) (hg : PG X tg g) (hs : swapsWithSole [tg] e pos.line X.env = pure false := by rfl) (hw : swappedStores [tg] e X.env = pure none := by rfl)
    (h1 : (assignEach [tg] X.env).map (·.2) = [assign tg X.env] := by rfl) : PS X (.Assign [tg] e pos) (tAsg te g) := by
  intro pins s σ H D I h
  refine wpAny_Assign_stores (thn (he pins s σ H _ I h) fun v s1 ⟨x, H1, I1, r1, q1⟩ => ?_) hs hw
  rw [h1]
  exact thn (hg pins s1 σ H1 x v _ I1 r1 q1) fun _ s2 q => q
/-- name = value -/
theorem ps_set {i : Nat} {x : Str} {e : Expr} {te : TE} {pos' : Pos} (hN : X.N.Nodup) (hi : X.N[i]? = some x) (hx : Loc X.env.scope x) (he : PE X e te) (hs : swapsWith e (some (.Name x pos')) pos.line X.env = pure false := by rfl) (hf : X.fn x = true ∨ X.env.scope.names.lookup x = some .local := by first | exact .inl rfl | exact .inr rfl | assumption) :
    PS X (.Assign [.Name x pos'] e pos) (tAsg te (gName i)) := by
  intro pins s σ H D I h
  refine wpAny_Assign_Name (thn (he pins s σ H _ I h) fun v s1 ⟨y, H1, I1, r1, q1⟩ => ?_) hs
  exact store_ok I1 hN hi hx r1 (fun s2 I2 => ⟨_, H1, I2, q1⟩) hf
/-- name op= e -/
def tAug (i : Nat) (te : TE) (ti : TIp) : TS := fun D σ H => ∃ x, σ[i]? = some (some x) ∧ te σ H fun y H1 => ti x y H1 fun z H2 => D.nx (σ.set i (some z)) H2
theorem ps_aug {i : Nat} {x : Str} {e : Expr} {te : TE} {op : Operator} {ti : TIp} {pos' : Pos} (hN : X.N.Nodup) (hi : X.N[i]? = some x) (hx : Loc X.env.scope x) (he : PE X e te) (ho : PIp X op ti) (hf : X.fn x = true ∨ X.env.scope.names.lookup x = some .local := by first | exact .inl rfl | exact .inr rfl | assumption) :
    PS X (.AugAssign (.Name x pos') op e pos) (tAug i te ti) := by
  intro pins s σ H D I h
  obtain ⟨v, e1, h⟩ := h
  obtain ⟨m, hn, hl⟩ := I.loc
  have vis : Vis X.env.scope x := by rcases hx with k | k; exact .inl k; exact .inr (.inl k)
  obtain ⟨u, r, l⟩ := hl i x v hi e1 vis
  refine wpAny_AugAssign_Name ?_
  have go : wpAny (model X.prog X.w) X.A (eval e X.env) (fun w s₂ => wpAny (model X.prog X.w) X.A (inplaceOp op u w) (fun r s₃ => wpAny (model X.prog X.w) X.A (storeName X.env x r) (fun _ => SP X pins D .next) X.xe s₃) X.xe s₂) X.xe s := by
    refine thn (he pins s σ H _ I h) fun w s1 ⟨y, H1, I1, r1, q1⟩ => ?_
    refine thn (ho pins s1 σ H1 v y u w _ I1 r r1 q1) fun z s2 ⟨zv, H2, I2, r2, q2⟩ => ?_
    exact store_ok I2 hN hi hx r2 (fun s3 I3 => ⟨_, H2, I3, q2⟩) hf
  rcases l with ⟨hk, hm⟩ | ⟨hk, c, hc, hcell⟩
  · exact wpAny_loadName_local I.ok.kind hk hn hm go
  · rcases hk with hk | hk
    · exact wpAny_loadName_cell I.ok.kind hk hc hcell go
    · rcases hx with k | k
      · have : X.env.scope.names.lookup x = some .free := hk
        rw [k] at this; cases this
      · have : X.env.scope.names.lookup x = some .free := hk
        rw [k] at this; cases this
/-- ints -/
def ipI (f : Int → Int → Int) : TIp := fun x y H Q => ∃ i j, x = .int i ∧ y = .int j ∧ Q (.int (f i j)) H
theorem ip_add : PIp X .Add (ipI fun i j => i + j) := by
  intro pins s σ H x y v u Q I r1 r2 h
  obtain ⟨i, j, e1, e2, q⟩ := h
  subst e1; subst e2
  obtain ⟨t, rfl⟩ := r1
  obtain ⟨t', rfl⟩ := r2
  exact iadd_int ⟨.int _, H, I.tok _, ⟨_, rfl⟩, q⟩
end
/-! ### while -/
section
variable {X : Cx} {pos : Pos}
/-- the invariant W with its measure -/
def tWhile (c : TT) (tb : TS) : TS := fun D σ H => ∃ W : Nat → St → Hp → Prop, (∃ m, W m σ H) ∧ ∀ m σ H, W m σ H →
  c σ H fun b H1 => if b = true then ∃ N : St → Hp → Prop, (∀ σ' H', N σ' H' → ∃ m', m' < m ∧ W m' σ' H') ∧ tb { D with nx := N, ct := N, bk := D.nx } σ H1 else D.nx σ H1
theorem ps_while {c : Expr} {body : List Stmt} {tc : TT} {tb : TS} (hp : PassesOwn (model X.prog X.w) X.A X.env X.xe) (hc : PT X c tc) (hb : PSs X body tb) : PS X (.While c body [] pos) (tWhile tc tb) := by
  intro pins s σ H D I h
  obtain ⟨W, ⟨m0, w0⟩, turn⟩ := h
  refine wpAny_While (codeAny_whileLoop (fun n s' => ∃ σ' H', Inv X pins σ' H' s' ∧ W n σ' H') ?_ m0 ⟨σ, H, I, w0⟩)
  rintro n s1 ⟨σ1, H1, I1, w1⟩
  refine wpAny_passesOwn hp (thn (hc pins s1 σ1 H1 _ I1 (turn n σ1 H1 w1)) fun b s2 ⟨H2, I2, q2⟩ => ?_)
  cases b with
  | true =>
    obtain ⟨N, hN, q2⟩ := q2
    rw [if_pos rfl]
    refine wpAny_passesOwn hp (thn (hb pins s2 σ1 H2 _ I2 q2) fun f s3 q3 => ?_)
    cases f with
    | next =>
      obtain ⟨σ3, H3, I3, n3⟩ := q3
      obtain ⟨m', hm, w3⟩ := hN σ3 H3 n3
      exact ⟨m', hm, σ3, H3, I3, w3⟩
    | cont =>
      obtain ⟨σ3, H3, I3, n3⟩ := q3
      obtain ⟨m', hm, w3⟩ := hN σ3 H3 n3
      exact ⟨m', hm, σ3, H3, I3, w3⟩
    | brk => exact q3
    | ret v => exact q3
  | false =>
    rw [if_neg Bool.false_ne_true]
    exact wpAny_execs_nil ⟨σ1, H2, I2, q2⟩
end
/-! ### what a loop or a comprehension walks -/
/-- at turn i: it yields x (the heap may grow), or it stops -/
structure It where
  go : Nat → Hp → Prop
  yld : Nat → Hp → V → Hp → Prop
  stop : Nat → Hp → Prop
/-- the iterator's own objects may turn: they are not the frame's, not pinned, younger than the entry (or a comprehension's own) -/
def FpOk (X : Cx) (pins : List (Addr × Obj)) (H : Hp) (b : Addr) : Prop :=
  H b = none ∧ b ≠ X.env.locals ∧ b ∉ X.fs ∧ (b ∈ X.ex ∨ X.s_0.heap.objs.size ≤ b) ∧ (∀ x c, X.env.cells.lookup x = some c → c ≠ b) ∧ ∀ p ∈ X.pn ++ pins, p.1 ≠ b
theorem Inv.fpOk {X : Cx} {pins : List (Addr × Obj)} {σ : St} {H H' : Hp} {s : Shared} {b : Addr} (I : Inv X pins σ H s) (hb : s.heap.objs.size ≤ b) (hn : H' b = none) : FpOk X pins H' b := by
  refine ⟨hn, Nat.ne_of_gt (Nat.lt_of_lt_of_le I.lt hb), I.nofs hb, .inr (Nat.le_trans I.sz hb), fun x c e z => ?_, fun p hp z => ?_⟩
  · obtain ⟨v, q⟩ := I.cell x c e
    exact absurd (Nat.lt_of_lt_of_le q.lt (by rw [z]; exact hb)) (Nat.lt_irrefl _)
  · exact absurd (Nat.lt_of_lt_of_le (Heap.lt_size (I.pin p hp).1) (by rw [z]; exact hb)) (Nat.lt_irrefl _)
structure Turn (P : Program) (w : World) (K : PySem.W.Frag) (tg : Expr) (J : It) (fp : List Addr) (it : Addr) (tn : Nat → Heap → Prop) : Prop where
  mem : it ∈ fp
  obj : ∀ i h, tn i h → ∀ b ∈ fp, ∃ o, h.get? b = some o ∧ ∀ v, o.data ≠ .cell v
  keep : ∀ i h h', tn i h → (∀ b ∈ fp, ∀ o, h.get? b = some o → h'.get? b = some o) → tn i h'
  item : ∀ (X : Cx), X.prog = P → X.w = w → X.K = K → X.calm = true → ∀ (i : Nat) (pins : List (Addr × Obj)) (s : Shared) (σ : St) (H : Hp) (E : Value → Shared → Prop), Inv X pins σ H s → (∀ b ∈ fp, FpOk X pins H b) → tn i s.heap → J.go i H →
    wpAny (model P w) X.A (pyNext (.ref it)) (fun r s1 => ∃ u, r = some u ∧
      wpAny (model P w) X.A (letOwnedTupleGo tg (.ref it) u) (fun _ s2 => ∃ x H', Inv X pins σ H' s2 ∧ RelV x u ∧ J.yld i H x H' ∧ tn (i + 1) s2.heap ∧ ∀ b ∈ fp, H' b = none) E s1) E s
  done : ∀ (X : Cx), X.prog = P → X.w = w → X.K = K → X.calm = true → ∀ (i : Nat) (pins : List (Addr × Obj)) (s : Shared) (σ : St) (H : Hp) (E : Value → Shared → Prop), Inv X pins σ H s → (∀ b ∈ fp, FpOk X pins H b) → tn i s.heap → J.stop i H →
    wpAny (model P w) X.A (pyNext (.ref it)) (fun r s1 => r = none ∧ Inv X pins σ H s1) E s
  self : ∀ (A : Around) (i : Nat) (s : Shared) (Q : Value → Shared → Prop) (E : Value → Shared → Prop), tn i s.heap → Q (.ref it) s → wpAny (model P w) A (pyIter (.ref it)) Q E s
abbrev TI := St → Hp → (It → Hp → Prop) → Prop
/-- an iterator has come -/
def PIE (X : Cx) (pins : List (Addr × Obj)) (σ : St) (tg : Expr) (R : It → Hp → Prop) (itv : Value) (s2 : Shared) : Prop :=
  ∃ (it : Addr) (fp : List Addr) (tn : Nat → Heap → Prop) (J : It) (H' : Hp), itv = .ref it ∧ Inv X pins σ H' s2 ∧ Turn X.prog X.w X.K tg J fp it tn ∧ tn 0 s2.heap ∧ (∀ b ∈ fp, FpOk X pins H' b) ∧ R J H'
def PI (X : Cx) (tg iter : Expr) (wi : TI) : Prop :=
  ∀ (pins : List (Addr × Obj)) (s : Shared) (σ : St) (H : Hp) (R : It → Hp → Prop), Inv X pins σ H s → wi σ H R →
    wpAny (model X.prog X.w) X.A (eval iter X.env) (fun v s1 => wpAny (model X.prog X.w) X.A (pyIter v) (PIE X pins σ tg R) X.xe s1) X.xe s
/-- the step ahead of the store is nothing for an iterator that keeps no tuple -/
theorem go_of {M : Model} {A : Around} {E : Value → Shared → Prop} {s : Shared} {tg : Expr} {it : Addr} {u : Value} {o : Obj} {n : String} {vs : Array Value} {Q : Unit → Shared → Prop} (ho : s.heap.get? it = some o) (hc : o.cls = .type n) (hd : o.data = .fields vs)
    (hn : ["enumerate", "zip", "dict_itemiterator", "dict_reverseitemiterator", "odict_iterator", "itertools.zip_longest", "itertools.pairwise"].contains n = false) (hQ : Q () s) : wpAny M A (letOwnedTupleGo tg (.ref it) u) Q E s := by
  unfold letOwnedTupleGo
  cases tg <;> first
    | exact wpAny_pure hQ
    | (cases u <;> first
        | exact wpAny_pure hQ
        | (refine wpAny_bind (wpAny_load ho ?_)
           rw [hc, hd]
           show wpAny M A (if (["enumerate", "zip", "dict_itemiterator", "dict_reverseitemiterator", "odict_iterator", "itertools.zip_longest", "itertools.pairwise"].contains n && vs[0]? == some (rawInt _)) = true then _ else _) Q E s
           rw [if_neg (by intro h; rw [hn, Bool.false_and] at h; cases h)]
           exact wpAny_pure hQ))
/-- the list at a, as it stands at each turn (a loop may append to it) -/
def Itl (K : PySem.W.Frag) (a : Addr) : It :=
  ⟨fun i H => ∃ xs x, SqL K H a xs ∧ xs[i]? = some x, fun i H x H' => H' = H ∧ ∀ xs, SqL K H a xs → xs[i]? = some x, fun i H => ∃ xs, SqL K H a xs ∧ xs.length ≤ i⟩
theorem turn_list {P : Program} {w : World} {K : PySem.W.Frag} {tg : Expr} (a it : Addr) : Turn P w K tg (Itl K a) [it] it (fun i h => h.IsListIter it a i) where
  mem := by simp
  obj := fun i h st b hb => by
    have e : b = it := by simpa using hb
    subst e
    obtain ⟨o, e, c, d⟩ := st
    exact ⟨o, e, fun v z => by rw [d] at z; cases z⟩
  keep := fun i h h' st k => st.at fun o e => k it (by simp) o e
  item := by
    intro X hP hw hK hc i pins s σ H E I hf st hg
    subst hP hw hK
    obtain ⟨xs, x, hq, hx⟩ := hg
    obtain ⟨its, rv, p, hz⟩ := I.list hq
    obtain ⟨u, hu, ru⟩ := rv.get hx
    obtain ⟨f0, f1, f2, f3, f4, f5⟩ := hf it (by simp)
    refine wpAny_pyNext_list_item st p.isList (x := u) (by simpa using hu) fun h' st' sb => ?_
    have I1 : Inv X pins σ H { s with heap := h' } := I.turned (t' := s.toks) (fun b o hb e => (sb.2 b hb).trans e) f0 f1 f3 f4 f5
    obtain ⟨o, e, c, d⟩ := id st'
    exact ⟨u, rfl, go_of (s := { s with heap := h' }) e c d (by decide) ⟨x, H, I1, ru, ⟨rfl, fun ys hy => by rw [I.list_inj hy hq]; exact hx⟩, st', fun b hb => (hf b hb).1⟩⟩
  done := by
    intro X hP hw hK hc i pins s σ H E I hf st hg
    subst hP hw hK
    obtain ⟨xs, hq, hx⟩ := hg
    obtain ⟨its, rv, p, hz⟩ := I.list hq
    obtain ⟨f0, f1, f2, f3, f4, f5⟩ := hf it (by simp)
    have hl := rv.length
    exact wpAny_pyNext_list_end (I.ok.hd hc) st p.isList (by simp; omega) fun h' eb => ⟨rfl, I.turned (t' := s.toks) (fun b o hb e => eb b o hb e) f0 f1 f3 f4 f5⟩
  self := fun _ _ _ _ _ st h => wpAny_pyIter_listiter st h
end L2
namespace L2
open PySem PySem.Spec PyProof.Rows
section
variable {X : Cx} {tg : Expr}
def iList (K : PySem.W.Frag) (tl : TE) : TI := fun σ H R => tl σ H fun x H1 => ∃ a, x = .ref a ∧ (∃ xs, SqL K H1 a xs) ∧ R (Itl K a) H1
theorem pi_list {l : Expr} {tl : TE} (hl : PE X l tl) : PI X tg l (iList X.K tl) := by
  intro pins s σ H R I h
  refine thn (hl pins s σ H _ I h) fun v s1 ⟨x, H1, I1, r1, q1⟩ => ?_
  obtain ⟨a, e, ⟨xs, hq⟩, q⟩ := q1
  subst e
  cases r1
  obtain ⟨its, rv, p, hz⟩ := I1.list hq
  refine wpAny_pyIter_list p.isList ?_
  refine ⟨s1.heap.objs.size, [s1.heap.objs.size], _, _, H1, rfl, I1.kept (t' := s1.toks) fun b o e => Heap.get?_push_of_some _ e, turn_list a _, ⟨_, Heap.get?_push_size _ rfl, rfl, rfl⟩, fun b hb => ?_, q⟩
  have e : b = s1.heap.objs.size := by simpa using hb
  subst e
  exact I1.fpOk (Nat.le_refl _) (I1.hok.fresh (Nat.le_refl _))
/-! ### for -/
/-- W: the invariant by the turn and a measure; N: what the body is to reach -/
def tFor (wi : TI) (g : TG) (tb : TS) : TS := fun D σ H => wi σ H fun J H1 => ∃ W : Nat → Nat → St → Hp → Prop, (∃ m, W 0 m σ H1) ∧ ∀ i m σ H, W i m σ H →
  (J.stop i H ∧ D.nx σ H) ∨ (J.go i H ∧ ∃ N : St → Hp → Prop, (∀ σ' H', N σ' H' → ∃ m', m' < m ∧ W (i + 1) m' σ' H') ∧ ∀ x H', J.yld i H x H' → g x σ H' fun σ2 H2 => tb { D with nx := N, ct := N, bk := D.nx } σ2 H2)
/-- the records at fp as they stand -/
def pinsAt (fp : List Addr) (h : Heap) : List (Addr × Obj) := fp.filterMap fun b => (h.get? b).map fun o => (b, o)
theorem mem_pinsAt {fp : List Addr} {h : Heap} {b : Addr} {o : Obj} (hb : b ∈ fp) (e : h.get? b = some o) : (b, o) ∈ pinsAt fp h := List.mem_filterMap.mpr ⟨b, hb, by rw [e]; rfl⟩
theorem of_pinsAt {fp : List Addr} {h : Heap} {p : Addr × Obj} (hp : p ∈ pinsAt fp h) : p.1 ∈ fp ∧ h.get? p.1 = some p.2 := by
  obtain ⟨b, hb, e⟩ := List.mem_filterMap.mp hp
  cases q : h.get? b with
  | none => rw [q] at e; cases e
  | some o =>
    rw [q] at e
    have e' : (b, o) = p := Option.some.inj e
    subst e'
    exact ⟨hb, q⟩
theorem Inv.pinned {pins : List (Addr × Obj)} {σ : St} {H : Hp} {s : Shared} {fp : List Addr} (I : Inv X pins σ H s) (hf : ∀ b ∈ fp, FpOk X pins H b) (ho : ∀ b ∈ fp, ∃ o, s.heap.get? b = some o ∧ ∀ v, o.data ≠ .cell v) : Inv X (pins ++ pinsAt fp s.heap) σ H s :=
  I.pins_of fun p hp => (List.mem_append.mp hp).elim (fun z => I.pin p (List.mem_append_right _ z)) fun z => by
    obtain ⟨hb, e⟩ := of_pinsAt z
    obtain ⟨f0, f1, f2, _⟩ := hf p.1 hb
    obtain ⟨o, e', d⟩ := ho p.1 hb
    rw [e] at e'; cases e'
    exact ⟨e, f0, f1, f2, d⟩
theorem Inv.unpinned {pins pl : List (Addr × Obj)} {σ : St} {H : Hp} {s : Shared} (I : Inv X (pins ++ pl) σ H s) : Inv X pins σ H s := I.pins_of fun p hp => I.pin p (List.mem_append_right _ (List.mem_append_left _ hp))
theorem ps_for {iter : Expr} {body : List Stmt} {wi : TI} {g : TG} {tb : TS} {pos : Pos} (hp : PassesOwn (model X.prog X.w) X.A X.env X.xe) (hc : X.calm = true) (hi : PI X tg iter wi) (hg : PG X tg g) (hb : PSs X body tb)
    (hs : ∀ x, foldedSetIterable iter X.env x = pure x := by intro _; rfl) : PS X (.For tg iter body [] pos) (tFor wi g tb) := by
  intro pins s σ H D I h
  refine wpAny_For (thn (hi pins s σ H _ I h) fun v s1 h1 => thn h1 fun itv s2 h2 => ?_) hs
  obtain ⟨it, fp, tn, J, H2, e, I2, T, st2, f2, W, ⟨m0, w0⟩, turn⟩ := h2
  subst e
  -- what stays true of the iterator's objects through the loop
  have stat : ∀ {H' : Hp}, (∀ b ∈ fp, H' b = none) → ∀ b ∈ fp, FpOk X pins H' b := fun hn b hb => ⟨hn b hb, (f2 b hb).2⟩
  refine codeAny_forLoop_any (fun n s' => ∃ i σ' H', Inv X pins σ' H' s' ∧ tn i s'.heap ∧ (∀ b ∈ fp, H' b = none) ∧ W i n σ' H') ?_ m0 ⟨0, σ, H2, I2, st2, fun b hb => (f2 b hb).1, w0⟩
  rintro n s3 ⟨i, σ3, H3, I3, st3, fr3, w3⟩
  rcases turn i n σ3 H3 w3 with ⟨stop, qn⟩ | ⟨go, N, hN, step⟩
  · refine wpAny_passesOwn hp (thn (T.done X rfl rfl rfl hc i pins s3 σ3 H3 X.xe I3 (stat fr3) st3 stop) fun r s4 ⟨hr, I4⟩ => ?_)
    subst hr
    exact wpAny_execs_nil ⟨σ3, H3, I4, qn⟩
  · refine wpAny_passesOwn hp (thn (T.item X rfl rfl rfl hc i pins s3 σ3 H3 X.xe I3 (stat fr3) st3 go) fun r s4 ⟨u, hr, h4⟩ => ?_)
    subst hr
    refine wpAny_passesOwn hp (thn h4 fun _ s5 ⟨x, H5, I5, r5, y5, st5, fr5⟩ => ?_)
    have I5' := I5.pinned (stat fr5) (T.obj _ _ st5)
    refine wpAny_passesOwn hp (thn (hg _ s5 σ3 H5 x u _ I5' r5 (step x H5 y5)) fun _ s6 ⟨σ6, H6, I6, q6⟩ => ?_)
    refine wpAny_passesOwn hp (thn (hb _ s6 σ6 H6 _ I6 q6) fun f s7 q7 => ?_)
    have again : ∀ {σ7 : St} {H7 : Hp}, Inv X (pins ++ pinsAt fp s5.heap) σ7 H7 s7 → N σ7 H7 → ∃ m, m < n ∧ ∃ i σ' H', Inv X pins σ' H' s7 ∧ tn i s7.heap ∧ (∀ b ∈ fp, H' b = none) ∧ W i m σ' H' := fun {σ7 H7} I7 n7 => by
      obtain ⟨m', hm, w7⟩ := hN σ7 H7 n7
      refine ⟨m', hm, i + 1, σ7, H7, I7.unpinned, T.keep _ _ _ st5 fun b hb o e => (I7.pin (b, o) (List.mem_append_right _ (List.mem_append_right _ (mem_pinsAt hb e)))).1, fun b hb => ?_, w7⟩
      obtain ⟨o, e, d⟩ := T.obj _ _ st5 b hb
      exact (I7.pin (b, o) (List.mem_append_right _ (List.mem_append_right _ (mem_pinsAt hb e)))).2.1
    cases f with
    | next => obtain ⟨σ7, H7, I7, n7⟩ := q7; exact again I7 n7
    | cont => obtain ⟨σ7, H7, I7, n7⟩ := q7; exact again I7 n7
    | brk => obtain ⟨σ7, H7, I7, q7⟩ := q7; exact ⟨σ7, H7, I7.unpinned, q7⟩
    | ret v => obtain ⟨x7, σ7, H7, I7, r7, q7⟩ := q7; exact ⟨x7, σ7, H7, I7.unpinned, r7, q7⟩
end
/-! ### the forms one uses -/
/-- over a list that the body leaves as it is -/
theorem for_list {K : PySem.W.Frag} {a : Addr} {xs : List V} {g : TG} {tb : TS} {D : Ends} {σ : St} {H : Hp} (Pv : Nat → St → Hp → Prop) (h0 : Pv 0 σ H) (hl : ∀ i σ H, i ≤ xs.length → Pv i σ H → SqL K H a xs)
    (hs : ∀ i x σ H, xs[i]? = some x → Pv i σ H → g x σ H fun σ2 H2 => tb { D with nx := Pv (i + 1), ct := Pv (i + 1), bk := D.nx } σ2 H2) (hd : ∀ σ H, Pv xs.length σ H → D.nx σ H) :
    ∃ W : Nat → Nat → St → Hp → Prop, (∃ m, W 0 m σ H) ∧ ∀ i m σ H, W i m σ H →
      ((Itl K a).stop i H ∧ D.nx σ H) ∨ ((Itl K a).go i H ∧ ∃ N : St → Hp → Prop, (∀ σ' H', N σ' H' → ∃ m', m' < m ∧ W (i + 1) m' σ' H') ∧ ∀ x H', (Itl K a).yld i H x H' → g x σ H' fun σ2 H2 => tb { D with nx := N, ct := N, bk := D.nx } σ2 H2) := by
  refine ⟨fun i m σ H => m = xs.length - i ∧ i ≤ xs.length ∧ Pv i σ H, ⟨xs.length, by simp, Nat.zero_le _, h0⟩, ?_⟩
  rintro i m σ H ⟨rfl, hi, p⟩
  have q := hl i σ H hi p
  by_cases hlt : i < xs.length
  · refine .inr ⟨⟨xs, xs[i], q, by simp [hlt]⟩, Pv (i + 1), fun σ' H' p' => ⟨xs.length - (i + 1), by omega, rfl, hlt, p'⟩, fun x H' y => ?_⟩
    obtain ⟨e, y⟩ := y
    subst e
    exact hs i x σ _ (y xs q) p
  · have e : i = xs.length := by omega
    subst e
    exact .inl ⟨⟨xs, q, Nat.le_refl _⟩, hd σ H p⟩
end L2
namespace L2
open PySem PySem.Spec PyProof.Rows
abbrev R2 := V → V → Hp → VK → Prop
/-- a two-place operation on values: f is binaryOp op, inplaceOp op or compareOp op -/
def OpR (X : Cx) (f : Value → Value → Sem Value) (r : R2) : Prop :=
  ∀ (pins : List (Addr × Obj)) (s : Shared) (σ : St) (H : Hp) (x y : V) (v u : Value) (Q : VK), Inv X pins σ H s → RelV x v → RelV y u → r x y H Q →
    wpAny (model X.prog X.w) X.A (f v u) (EP X pins σ Q) X.xe s
/-- a one-place operation -/
def UnR (X : Cx) (f : Value → Sem Value) (r : V → Hp → VK → Prop) : Prop :=
  ∀ (pins : List (Addr × Obj)) (s : Shared) (σ : St) (H : Hp) (x : V) (v : Value) (Q : VK), Inv X pins σ H s → RelV x v → r x H Q →
    wpAny (model X.prog X.w) X.A (f v) (EP X pins σ Q) X.xe s
/-- a call of a value that is known (a builtin, a type) with values -/
def CallR (X : Cx) (f : Value) (r : List V → Hp → VK → Prop) : Prop :=
  ∀ (pins : List (Addr × Obj)) (s : Shared) (σ : St) (H : Hp) (xs : List V) (us : List Value) (Q : VK), Inv X pins σ H s → Vals xs us → r xs H Q →
    wpAny (model X.prog X.w) X.A (call f us) (EP X pins σ Q) X.xe s
def tOp (r : R2) (ta tb : TE) : TE := fun σ H Q => ta σ H fun x H1 => tb σ H1 fun y H2 => r x y H2 Q
def tUn (r : V → Hp → VK → Prop) (ta : TE) : TE := fun σ H Q => ta σ H fun x H1 => r x H1 Q
/-- ints in, under C, and a value out -/
def rI (C : Int → Int → Prop) (g : Int → Int → V) : R2 := fun x y H Q => ∃ i j, x = .int i ∧ y = .int j ∧ C i j ∧ Q (g i j) H
def rI0 (g : Int → Int → V) : R2 := fun x y H Q => ∃ i j, x = .int i ∧ y = .int j ∧ Q (g i j) H
def rU (g : Int → V) : V → Hp → VK → Prop := fun x H Q => ∃ i, x = .int i ∧ Q (g i) H
section
variable {X : Cx} {a b c : Expr} {ta tb tc : TE} {pos : Pos}
theorem binT (ha : PE X a ta) (hb : PE X b tb) {pins : List (Addr × Obj)} {s : Shared} {σ : St} {H : Hp} {R : V → V → Hp → Prop} (I : Inv X pins σ H s)
    (h : ta σ H fun x H1 => tb σ H1 fun y H2 => R x y H2) {Q : Value → Shared → Prop} {f : Value → Value → Sem Value}
    (hf : ∀ v u s2 x y H2, Inv X pins σ H2 s2 → RelV x v → RelV y u → R x y H2 → wpAny (model X.prog X.w) X.A (f v u) Q X.xe s2) :
    wpAny (model X.prog X.w) X.A (eval a X.env) (fun v s₁ => wpAny (model X.prog X.w) X.A (eval b X.env) (fun u s₂ => wpAny (model X.prog X.w) X.A (f v u) Q X.xe s₂) X.xe s₁) X.xe s := by
  refine thn (ha pins s σ H _ I h) fun v s1 ⟨x, H1, I1, r1, q1⟩ => ?_
  refine thn (hb pins s1 σ H1 _ I1 q1) fun u s2 ⟨y, H2, I2, r2, q2⟩ => ?_
  exact hf v u s2 x y H2 I2 r1 r2 q2
theorem pe_op {op : Operator} {r : R2} (ho : OpR X (binaryOp op) r) (ha : PE X a ta) (hb : PE X b tb) : PE X (.BinOp a op b pos) (tOp r ta tb) := by
  intro pins s σ H Q I h
  exact wpAny_BinOp (binT ha hb I h fun v u s2 x y H2 I2 rx ry q => ho pins s2 σ H2 x y v u Q I2 rx ry q)
theorem pe_un {op : UnaryOp} {r : V → Hp → VK → Prop} (ho : UnR X (unaryOp op) r) (ha : PE X a ta) : PE X (.UnaryOp op a pos) (tUn r ta) := by
  intro pins s σ H Q I h
  exact UnaryOp_ (thn (ha pins s σ H _ I h) fun v s1 ⟨x, H1, I1, r1, q1⟩ => ho pins s1 σ H1 x v Q I1 r1 q1)
/-! ### ints -/
theorem opI {f : Value → Value → Sem Value} {C : Int → Int → Prop} {g : Int → Int → Int}
    (rule : ∀ (i j : Int) (t u : Tok) (s : Shared) (Q : Value → Shared → Prop) (E : Value → Shared → Prop), C i j → Q (.int (g i j) s.toks) { s with toks := s.toks + 1 } → wpAny (model X.prog X.w) X.A (f (.int i t) (.int j u)) Q E s) :
    OpR X f (rI C fun i j => .int (g i j)) := by
  intro pins s σ H x y v u Q I rx ry h
  obtain ⟨i, j, rfl, rfl, hc, q⟩ := h
  obtain ⟨t, rfl⟩ := rx
  obtain ⟨t', rfl⟩ := ry
  exact rule i j t t' s _ _ hc ⟨.int (g i j), H, I.tok _, ⟨_, rfl⟩, q⟩
theorem opI0 {f : Value → Value → Sem Value} {g : Int → Int → Int}
    (rule : ∀ (i j : Int) (t u : Tok) (s : Shared) (Q : Value → Shared → Prop) (E : Value → Shared → Prop), Q (.int (g i j) s.toks) { s with toks := s.toks + 1 } → wpAny (model X.prog X.w) X.A (f (.int i t) (.int j u)) Q E s) :
    OpR X f (rI0 fun i j => .int (g i j)) := by
  intro pins s σ H x y v u Q I rx ry h
  obtain ⟨i, j, rfl, rfl, q⟩ := h
  obtain ⟨t, rfl⟩ := rx
  obtain ⟨t', rfl⟩ := ry
  exact rule i j t t' s _ _ ⟨.int (g i j), H, I.tok _, ⟨_, rfl⟩, q⟩
theorem opB0 {f : Value → Value → Sem Value} {g : Int → Int → Bool}
    (rule : ∀ (i j : Int) (t u : Tok) (s : Shared) (Q : Value → Shared → Prop) (E : Value → Shared → Prop), Q (.bool (g i j)) s → wpAny (model X.prog X.w) X.A (f (.int i t) (.int j u)) Q E s) :
    OpR X f (rI0 fun i j => .bl (g i j)) := by
  intro pins s σ H x y v u Q I rx ry h
  obtain ⟨i, j, rfl, rfl, q⟩ := h
  obtain ⟨t, rfl⟩ := rx
  obtain ⟨t', rfl⟩ := ry
  exact rule i j t t' s _ _ ⟨.bl (g i j), H, I, rfl, q⟩
def CDiv (i j : Int) : Prop := 0 < j ∧ j < 1073741824
def CPow (i j : Int) : Prop := 0 ≤ j ∧ j ≤ 1000000 ∧ i.natAbs < 2 ^ 64
def CMul (i j : Int) : Prop := (-(2 ^ 64) < i ∧ i < 2 ^ 64) ∨ (-(2 ^ 64) < j ∧ j < 2 ^ 64)
theorem CMul.ok {i j : Int} (h : CMul i j) : IntMulOk i j := by
  rcases h with ⟨h1, h2⟩ | ⟨h1, h2⟩
  · exact .of_left (intBits_le_64 h1 h2)
  · exact .of_right (intBits_le_64 h1 h2)
theorem op_add : OpR X (binaryOp .Add) (rI0 fun i j => .int (i + j)) := opI0 fun _ _ _ _ _ _ _ q => add_int q
theorem op_sub : OpR X (binaryOp .Sub) (rI0 fun i j => .int (i - j)) := opI0 fun _ _ _ _ _ _ _ q => sub_int q
theorem op_mul : OpR X (binaryOp .Mult) (rI CMul fun i j => .int (i * j)) := opI fun _ _ _ _ _ _ _ hc q => mul_int q hc.ok
/-- // by a positive divisor -/
theorem op_fdiv : OpR X (binaryOp .FloorDiv) (rI CDiv fun i j => .int (i / j)) := opI fun i j _ _ _ _ _ hc q => by
  have h1 : (0 : Int) < j := hc.1
  have h2 : j < 1073741824 := hc.2
  exact floordiv_int (by omega) (by rw [Int.fdiv_eq_ediv_of_nonneg i (by omega)]; exact q) (.inl (PyProof.noPylong_small (by omega)))
theorem op_shl : OpR X (binaryOp .LShift) (rI CPow fun i j => .int (i * 2 ^ j.toNat)) := opI fun _ _ _ _ _ _ _ hc q => lshift_int_small hc.1 hc.2.1 hc.2.2 q
theorem unI {f : Value → Sem Value} {g : Int → Int}
    (rule : ∀ (i : Int) (t : Tok) (s : Shared) (Q : Value → Shared → Prop) (E : Value → Shared → Prop), Q (.int (g i) s.toks) { s with toks := s.toks + 1 } → wpAny (model X.prog X.w) X.A (f (.int i t)) Q E s) :
    UnR X f (rU fun i => .int (g i)) := by
  intro pins s σ H x v Q I rx h
  obtain ⟨i, rfl, q⟩ := h
  obtain ⟨t, rfl⟩ := rx
  exact rule i t s _ _ ⟨.int (g i), H, I.tok _, ⟨_, rfl⟩, q⟩
theorem un_neg : UnR X (unaryOp .USub) (rU fun i => .int (-i)) := unI fun _ _ _ _ _ q => neg_int q
/-! ### bools among ints: n += (a < b) -/
end
/-! ### comparisons -/
/-- the scalars that == tells apart as data does -/
def scal : V → V → Bool
  | .non, .non => true | .non, .int _ => true | .int _, .non => true | .non, .bl _ => true | .bl _, .non => true | .non, .str _ => true | .str _, .non => true
  | .int _, .int _ => true | .bl _, .bl _ => true | .str _, .str _ => true | .byt _, .byt _ => true
  | .int _, .str _ => true | .str _, .int _ => true | .bl _, .str _ => true | .str _, .bl _ => true
  | _, _ => false
def rEq : R2 := fun x y H Q => scal x y = true ∧ Q (.bl (decide (x = y))) H
def rNe : R2 := fun x y H Q => scal x y = true ∧ Q (.bl (!decide (x = y))) H
theorem dec_int {i j : Int} : decide (V.int i = V.int j) = (i == j) := by
  rw [Bool.eq_iff_iff]
  simp
theorem dec_bl {i j : Bool} : decide (V.bl i = V.bl j) = (i == j) := by
  rw [Bool.eq_iff_iff]
  simp
theorem dec_str {i j : Str} : decide (V.str i = V.str j) = (i == j) := by
  rw [Bool.eq_iff_iff]
  simp
theorem dec_byt {i j : Array UInt8} : decide (V.byt i = V.byt j) = (i.toList == j.toList) := by
  rw [Bool.eq_iff_iff]
  cases i
  cases j
  simp
section
variable {X : Cx} {a b c : Expr} {ta tb tc : TE} {pos : Pos}
theorem fin_bl {pins : List (Addr × Obj)} {σ : St} {H : Hp} {s : Shared} {Q : VK} {k k' : Bool} (I : Inv X pins σ H s) (q : Q (.bl k) H) (e : k = k') : EP X pins σ Q (.bool k') s := by
  subst e
  exact ⟨.bl k, H, I, rfl, q⟩
theorem op_eq : OpR X (compareOp .Eq) rEq := by
  intro pins s σ H x y v u Q I rx ry h
  obtain ⟨hs, q⟩ := h
  cases x with
  | non =>
    cases rx
    cases y with
    | non => cases ry; exact PySem.EqNone.eq_none_none (fin_bl I q (by simp))
    | bl j => cases ry; exact PySem.EqNone.eq_none_bool (fin_bl I q (by simp))
    | int j => obtain ⟨t', rfl⟩ := ry; exact PySem.EqNone.eq_none_int (fin_bl I q (by simp))
    | str j => obtain ⟨t', rfl⟩ := ry; exact PySem.EqNone.eq_none_str (fin_bl I q (by simp))
    | _ => exact absurd (show false = true from hs) Bool.false_ne_true
  | bl i =>
    cases rx
    cases y with
    | non => cases ry; exact PySem.EqNone.eq_bool_none (fin_bl I q (by simp))
    | bl j => cases ry; exact eq_bool (fin_bl I q dec_bl)
    | str j => obtain ⟨t', rfl⟩ := ry; exact PySem.EqMixed.eq_bool_str (fin_bl I q (by simp))
    | _ => exact absurd (show false = true from hs) Bool.false_ne_true
  | int i =>
    obtain ⟨t, rfl⟩ := rx
    cases y with
    | non => cases ry; exact PySem.EqNone.eq_int_none (fin_bl I q (by simp))
    | int j => obtain ⟨t', rfl⟩ := ry; exact eq_int (fin_bl I q dec_int)
    | str j => obtain ⟨t', rfl⟩ := ry; exact PySem.EqMixed.eq_int_str (fin_bl I q (by simp))
    | _ => exact absurd (show false = true from hs) Bool.false_ne_true
  | str i =>
    obtain ⟨t, rfl⟩ := rx
    cases y with
    | non => cases ry; exact PySem.EqNone.eq_str_none (fin_bl I q (by simp))
    | bl j => cases ry; exact PySem.EqMixed.eq_str_bool (fin_bl I q (by simp))
    | int j => obtain ⟨t', rfl⟩ := ry; exact PySem.EqMixed.eq_str_int (fin_bl I q (by simp))
    | str j => obtain ⟨t', rfl⟩ := ry; exact eq_str (fin_bl I q dec_str)
    | _ => exact absurd (show false = true from hs) Bool.false_ne_true
  | byt i =>
    obtain ⟨t, rfl⟩ := rx
    cases y with
    | byt j => obtain ⟨t', rfl⟩ := ry; exact PySem.W.eq_bytes (fin_bl I q dec_byt)
    | _ => exact absurd (show false = true from hs) Bool.false_ne_true
  | _ => cases y <;> exact absurd (show false = true from hs) Bool.false_ne_true
theorem op_ne : OpR X (compareOp .NotEq) rNe := by
  intro pins s σ H x y v u Q I rx ry h
  obtain ⟨hs, q⟩ := h
  cases x with
  | non =>
    cases rx
    cases y with
    | non => cases ry; exact PySem.EqNone.ne_none_none (fin_bl I q (by simp))
    | bl j => cases ry; exact PySem.EqNone.ne_none_bool (fin_bl I q (by simp))
    | int j => obtain ⟨t', rfl⟩ := ry; exact PySem.EqNone.ne_none_int (fin_bl I q (by simp))
    | str j => obtain ⟨t', rfl⟩ := ry; exact PySem.EqNone.ne_none_str (fin_bl I q (by simp))
    | _ => exact absurd (show false = true from hs) Bool.false_ne_true
  | bl i =>
    cases rx
    cases y with
    | non => cases ry; exact PySem.EqNone.ne_bool_none (fin_bl I q (by simp))
    | bl j => cases ry; exact ne_bool (fin_bl I q (congrArg not dec_bl))
    | str j => obtain ⟨t', rfl⟩ := ry; exact PySem.EqMixed.ne_bool_str (fin_bl I q (by simp))
    | _ => exact absurd (show false = true from hs) Bool.false_ne_true
  | int i =>
    obtain ⟨t, rfl⟩ := rx
    cases y with
    | non => cases ry; exact PySem.EqNone.ne_int_none (fin_bl I q (by simp))
    | int j => obtain ⟨t', rfl⟩ := ry; exact ne_int (fin_bl I q (congrArg not dec_int))
    | str j => obtain ⟨t', rfl⟩ := ry; exact PySem.EqMixed.ne_int_str (fin_bl I q (by simp))
    | _ => exact absurd (show false = true from hs) Bool.false_ne_true
  | str i =>
    obtain ⟨t, rfl⟩ := rx
    cases y with
    | non => cases ry; exact PySem.EqNone.ne_str_none (fin_bl I q (by simp))
    | bl j => cases ry; exact PySem.EqMixed.ne_str_bool (fin_bl I q (by simp))
    | int j => obtain ⟨t', rfl⟩ := ry; exact PySem.EqMixed.ne_str_int (fin_bl I q (by simp))
    | str j => obtain ⟨t', rfl⟩ := ry; exact ne_str (fin_bl I q (congrArg not dec_str))
    | _ => exact absurd (show false = true from hs) Bool.false_ne_true
  | byt i =>
    obtain ⟨t, rfl⟩ := rx
    cases y with
    | byt j => obtain ⟨t', rfl⟩ := ry; exact PySem.W.ne_bytes (fin_bl I q (congrArg not dec_byt))
    | _ => exact absurd (show false = true from hs) Bool.false_ne_true
  | _ => cases y <;> exact absurd (show false = true from hs) Bool.false_ne_true
theorem op_lt : OpR X (compareOp .Lt) (rI0 fun i j => .bl (decide (i < j))) := opB0 fun _ _ _ _ _ _ _ q => lt_int q
theorem op_le : OpR X (compareOp .LtE) (rI0 fun i j => .bl (decide (i ≤ j))) := opB0 fun _ _ _ _ _ _ _ q => le_int q
theorem op_gt : OpR X (compareOp .Gt) (rI0 fun i j => .bl (decide (j < i))) := opB0 fun _ _ _ _ _ _ _ q => gt_int q
theorem op_ge : OpR X (compareOp .GtE) (rI0 fun i j => .bl (decide (j ≤ i))) := opB0 fun _ _ _ _ _ _ _ q => ge_int q
theorem nomark (b : Expr) {op : CmpOp} (h : op ≠ .In := by decide) (h2 : op ≠ .NotIn := by decide) : behindInMarks op b = false := by
  have e1 : (op == CmpOp.In) = false := by cases op <;> first | rfl | exact absurd rfl h
  have e2 : (op == CmpOp.NotIn) = false := by cases op <;> first | rfl | exact absurd rfl h2
  cases b <;> simp [behindInMarks, e1, e2]
/-- a comparison as a value; hm: nomark b, or (for in, not in) by with_unfolding_all rfl -/
theorem pe_cmpR {op : CmpOp} {r : R2} (ho : OpR X (compareOp op) r) (ha : PE X a ta) (hb : PE X b tb) (hm : behindInMarks op b = false) : PE X (.Compare a [op] [b] pos) (tOp r ta tb) := by
  intro pins s σ H Q I h
  exact wpAny_Compare1 (binT ha hb I h fun v u s2 x y H2 I2 rx ry q => ho pins s2 σ H2 x y v u Q I2 rx ry q) hm
/-- a reading of a value as a test -/
def tTest (t : TE) : TT := fun σ H Q => t σ H fun x H' => ∃ k, x = .bl k ∧ Q k H'
theorem pt_cmpR {op : CmpOp} {r : R2} (ho : OpR X (compareOp op) r) (ha : PE X a ta) (hb : PE X b tb) (hm : behindInMarks op b = false) : PT X (.Compare a [op] [b] pos) (tTest (tOp r ta tb)) := by
  intro pins s σ H Q I h
  refine wpAny_isTrue_Compare1 (thn (ha pins s σ H _ I h) fun v s1 ⟨x, H1, I1, r1, q1⟩ => thn (hb pins s1 σ H1 _ I1 q1) fun u s2 ⟨y, H2, I2, r2, q2⟩ =>
    thn (ho pins s2 σ H2 x y v u _ I2 r1 r2 q2) fun c s3 ⟨z, H3, I3, r3, k, e, q3⟩ => ?_) hm
  subst e
  cases r3
  exact wpAny_truthy_bool ⟨H3, I3, q3⟩
/-- a op1 b op2 c -/
def tChain (r r' : R2) (ta tb tc : TE) : TE := fun σ H Q => ta σ H fun x H1 => tb σ H1 fun y H2 => r x y H2 fun z H3 => ∃ k, z = .bl k ∧
  (if k = true then tc σ H3 fun w' H4 => r' y w' H4 Q else Q (.bl false) H3)
theorem pe_chain {op op' : CmpOp} {r r' : R2} (ho : OpR X (compareOp op) r) (ho' : OpR X (compareOp op') r') (ha : PE X a ta) (hb : PE X b tb) (hc : PE X c tc)
    (hm : lastMarks [op, op'] [b, c] = false := by with_unfolding_all rfl) : PE X (.Compare a [op, op'] [b, c] pos) (tChain r r' ta tb tc) := by
  intro pins s σ H Q I h
  refine Compare_chain (thn (ha pins s σ H _ I h) fun v s1 ⟨x, H1, I1, r1, q1⟩ => chain_link (thn (hb pins s1 σ H1 _ I1 q1) fun u s2 ⟨y, H2, I2, r2, q2⟩ =>
    thn (ho pins s2 σ H2 x y v u _ I2 r1 r2 q2) fun d s3 ⟨z, H3, I3, r3, k, e, q3⟩ => ?_)) hm
  subst e
  cases r3
  refine wpAny_truthy_bool ?_
  cases k with
  | false => exact ite_ff ⟨.bl false, H3, I3, rfl, q3⟩
  | true => exact ite_tt (chain_last (thn (hc pins s3 σ H3 _ I3 q3) fun w' s4 ⟨z', H4, I4, r4, q4⟩ => ho' pins s4 σ H4 y z' u w' Q I4 r2 r4 q4))
/-! ### truth -/
theorem line63 : (sizeLine : Nat) < 2 ^ 63 := by rw [sizeLine_eq]; decide
/-! ### strs and bytes -/
/-! ### scalar builtins, by CallR -/
theorem vals1 {x : V} {us : List Value} (r : Vals [x] us) : ∃ u, us = [u] ∧ RelV x u := by
  cases r with
  | cons r1 r2 => cases r2; exact ⟨_, rfl, r1⟩
theorem vals2 {x y : V} {us : List Value} (r : Vals [x, y] us) : ∃ u w', us = [u, w'] ∧ RelV x u ∧ RelV y w' := by
  cases r with
  | cons r1 r2 =>
    cases r2 with
    | cons r3 r4 => cases r4; exact ⟨_, _, rfl, r1, r3⟩
theorem call_abs : CallR X (.builtin "abs") (fun xs H Q => ∃ i, xs = [.int i] ∧ Q (.int (if i < 0 then -i else i)) H) := by
  intro pins s σ H xs us Q I r h
  obtain ⟨i, rfl, q⟩ := h
  obtain ⟨u, rfl, t, rfl⟩ := vals1 r
  exact call_abs_int fun u tk => ⟨.int (if i < 0 then -i else i), H, I.tok _, ⟨_, rfl⟩, q⟩
theorem call_max2 (hc : X.calm = true) : CallR X (.builtin "max") (fun xs H Q => ∃ i j, xs = [.int i, .int j] ∧ Q (.int (if j > i then j else i)) H) := by
  intro pins s σ H xs us Q I r h
  obtain ⟨i, j, rfl, q⟩ := h
  obtain ⟨u, w', rfl, ⟨t, rfl⟩, ⟨t', rfl⟩⟩ := vals2 r
  refine max_two_ints (I.ok.hd hc) fun h' tk k => ⟨_, H, I.kept k, ?_, q⟩
  by_cases hj : j > i
  · rw [if_pos hj, if_pos hj]; exact ⟨_, rfl⟩
  · rw [if_neg hj, if_neg hj]; exact ⟨_, rfl⟩
end
end L2
namespace L2
open PySem PySem.Spec PyProof.Rows
/-! ### an instance, its attributes a map -/
structure ObjM (h : Heap) (x dx C : Addr) (mA : Str → Option Value) : Prop where
  obj : h.get? x = some (PySem.W.instObj C dx)
  ns : h.Ns1 dx mA
  ne : dx ≠ x
theorem lookIn_ns {h : Heap} {dx : Addr} {mA : Str → Option Value} (n : h.Ns1 dx mA) : ∃ od, h.get? dx = some od ∧ ∀ name, PySem.W.lookIn name od = some (mA name) := by
  obtain ⟨o, es, ep, ho, hd, hk, _, hm⟩ := n
  refine ⟨o, ho, fun name => ?_⟩
  have e := hm name
  unfold nsFind findBy at e
  rw [← Array.find?_toList] at e
  unfold PySem.W.lookIn
  rw [hd]
  dsimp only
  split
  · rename_i y q
    rw [q] at e
    exact congrArg some e
  · rename_i q
    rw [q] at e
    have a : es.toList.any (·.refKey) = false := by
      rw [List.any_eq_false]
      intro y hy
      obtain ⟨z, t, hkey⟩ := hk y (Array.mem_toList_iff.mp hy)
      simp [DictEntry.refKey, hkey]
    have a' : ¬ es.toList.any (·.refKey) = true := by rw [a]; exact Bool.false_ne_true
    rw [if_neg a']
    exact congrArg some e
theorem ObjM.look {h : Heap} {x dx C : Addr} {mA : Str → Option Value} (I : ObjM h x dx C mA) : ∃ od, PySem.W.InstAt h x (PySem.W.instObj C dx) C (some od) ∧ ∀ name, PySem.W.lookIn name od = some (mA name) :=
  let ⟨od, ho, hl⟩ := lookIn_ns I.ns
  ⟨od, ⟨I.obj, rfl, rfl, ho⟩, hl⟩
section
variable {prog : Program} {w : World} {A : Around} {E : Value → Shared → Prop} {s : Shared} {K : PySem.W.Frag} {x dx C f : Addr} {mA : Str → Option Value} {name : Str} {v : Value}
theorem get_map {expr : Bool} {Q : Value → Shared → Prop} (X : K.In s.heap) (I : ObjM s.heap x dx C mA) (hg : PySem.W.plainGet K C name = true) (hh : PySem.W.hasDictIn K C = true)
    (ha : PySem.W.findIn K (.ref C) name = some none) (hv : mA name = some v) (hv' : PySem.W.handedIn v = true) (h : Q v { s with toks := s.toks + 1 }) :
    wpAny (model prog w) A (getAttr (.ref x) name expr) Q E s := by
  obtain ⟨od, J, hl⟩ := I.look
  exact PySem.W.get_value X J (PySem.W.plainGet_of hg).1 (PySem.W.findObj_own hh ha rfl (by rw [hl, hv])) hv' h
theorem set_map {ns : List Str} {Q : Unit → Shared → Prop} (X : K.In s.heap) (I : ObjM s.heap x dx C mA)
    (hs : PySem.W.findIn K (.ref C) "__setattr__" = some (some (.builtin "object.__setattr__"))) (hp : PySem.W.plainOver K C = true) (ht : PySem.W.takerIn K C name = some none) (hh : PySem.W.hasDictIn K C = true)
    (hw : PySem.Within mA ns) (hsz : ns.length ≤ sizeLine)
    (h : ∀ h', ObjM h' x dx C (fun y => if y = name then some v else mA y) → Heap.SameBut dx s.heap h' → Q () { s with heap := h', toks := s.toks + 2 }) :
    wpAny (model prog w) A (setAttr (.ref x) name v) Q E s := by
  obtain ⟨od, J, hl⟩ := I.look
  refine PySem.W.set_plain X J hs (PySem.W.osa_open (s := { s with toks := s.toks + 1 }) (r := none) X J hp ht fun b => ?_)
  obtain ⟨cd, hc, hd'⟩ := PySem.W.any_some hh
  have hx : s.heap.get? x = some ⟨.ref C, some dx, .plain, #[]⟩ := I.obj
  refine wpAny_bind (wpAny_pure (wpAny_bind (wpAny_bind (wpAny_loadPart hx (wpAny_bind (PySem.W.Looks.here (s := { s with toks := s.toks + 1 }) (PySem.W.looks_clsIn X hc) ?_))))))
  rw [hd']
  refine wpAny_pure (a := some dx) (wpAny_bind (wpAny_pure (wpAny_bind ?_)))
  refine wpAny_nsSet1 (s := { s with toks := s.toks + 1 }) I.ns fun h' hn2 hs2 => ?_
  obtain ⟨oD, esD, epD, hoD, hdD, hcD⟩ := hn2.count (PySem.Within.cons name v hw)
  refine wpAny_bind (wpAny_lookBehind hoD (by rw [hdD]; exact pastItsLine_dict (Nat.le_trans hcD (by rw [List.length_cons]; omega))) ?_)
  exact wpAny_pure (h _ ⟨(hs2.2 _ (Ne.symm I.ne)).trans I.obj, hn2, I.ne⟩ hs2)
/-- C(..): the dict at the heap's end, the instance behind it; then its __init__ -/
theorem make_map {R : Result → Shared → Prop} {vs : List Value} {kw : List (Str × Value)} (X : K.In s.heap) (hm : PySem.W.makesIn K C = true)
    (hi : PySem.W.findIn K (.ref C) "__init__" = some (some (.ref f))) (hf : PySem.W.typeIn K (.ref f) = some (.type "function"))
    (h : codeAny (model prog w) (A.under (.builtin "type.__call__" ⟨.ref C :: vs, kw⟩)) (.call (.ref f) ⟨.ref (s.heap.objs.size + 1) :: vs, kw⟩) (PySem.W.InitBack (s.heap.objs.size + 1) R)
      { s with heap := (s.heap.push PySem.W.emptyDict).push (PySem.W.instObj C s.heap.objs.size) }) :
    codeAny (model prog w) A (.call (.ref C) ⟨vs, kw⟩) R s := by
  obtain ⟨hh, g, d, t, os⟩ := s
  exact PySem.W.make_core (PySem.W.makes_of X hm) (PySem.W.looks_findIn X hi) (fun self => PySem.W.bind_fn X self hf) (.inl rfl) h
end
/-! ### the attributes as a list of pairs -/
def putF (f : Str) (v : V) : List (Str × V) → List (Str × V)
  | [] => [(f, v)]
  | (g, x) :: r => if g = f then (g, v) :: r else (g, x) :: putF f v r
theorem lookup_putF (f g : Str) (v : V) : ∀ fs : List (Str × V), (putF f v fs).lookup g = if g = f then some v else fs.lookup g
  | [] => by
    show List.lookup g [(f, v)] = _
    by_cases h : g = f
    · have hb : (g == f) = true := beq_iff_eq.mpr h
      simp only [List.lookup, hb, if_pos h]
    · have hb : (g == f) = false := beq_eq_false_iff_ne.mpr h
      simp only [List.lookup, hb, if_neg h]
  | (k, x) :: r => by
    have ih := lookup_putF f g v r
    rw [show putF f v ((k, x) :: r) = (if k = f then (k, v) :: r else (k, x) :: putF f v r) from rfl]
    by_cases hk : k = f
    · rw [if_pos hk]
      by_cases h : g = k
      · have hb : (g == k) = true := beq_iff_eq.mpr h
        simp only [List.lookup, hb, if_pos (h.trans hk)]
      · have hb : (g == k) = false := beq_eq_false_iff_ne.mpr h
        simp only [List.lookup, hb, if_neg (fun e : g = f => h (e.trans hk.symm))]
    · rw [if_neg hk]
      by_cases h : g = k
      · have hb : (g == k) = true := beq_iff_eq.mpr h
        simp only [List.lookup, hb, if_neg (fun e : g = f => hk (h.symm.trans e))]
      · have hb : (g == k) = false := beq_eq_false_iff_ne.mpr h
        simp only [List.lookup, hb]
        exact ih
theorem keys_putF (f : Str) (v : V) : ∀ fs : List (Str × V), f ∈ (putF f v fs).map (·.1) ∧ ∀ g, g ∈ fs.map (·.1) → g ∈ (putF f v fs).map (·.1)
  | [] => ⟨by simp [putF], fun g h => by simp at h⟩
  | (k, x) :: r => by
    obtain ⟨i1, i2⟩ := keys_putF f v r
    rw [show putF f v ((k, x) :: r) = (if k = f then (k, v) :: r else (k, x) :: putF f v r) from rfl]
    by_cases hk : k = f
    · rw [if_pos hk]
      subst hk
      exact ⟨by simp, fun g h => by simpa using h⟩
    · rw [if_neg hk]
      refine ⟨?_, fun g h => ?_⟩
      · rw [List.map_cons]
        exact List.mem_cons_of_mem _ i1
      · rw [List.map_cons] at h ⊢
        rcases List.mem_cons.mp h with e | e
        · exact List.mem_cons.mpr (.inl e)
        · exact List.mem_cons_of_mem _ (i2 g e)
theorem length_putF (f : Str) (v : V) : ∀ fs : List (Str × V), (putF f v fs).length ≤ fs.length + 1
  | [] => by simp [putF]
  | (k, x) :: r => by
    have ih := length_putF f v r
    rw [show putF f v ((k, x) :: r) = (if k = f then (k, v) :: r else (k, x) :: putF f v r) from rfl]
    by_cases hk : k = f
    · rw [if_pos hk, List.length_cons, List.length_cons]; omega
    · rw [if_neg hk, List.length_cons, List.length_cons]; omega
theorem RelO.some_of {v : V} {o : Option Value} (r : RelO (some v) o) : ∃ u, o = some u ∧ RelV v u := by
  cases o with
  | none => exact (show False from r).elim
  | some u => exact ⟨u, rfl, r⟩
theorem handed_of {v : V} {u : Value} (r : RelV v u) : PySem.W.handedIn u = true := by
  cases v with
  | non => cases (show u = Value.none from r); rfl
  | bl b => cases (show u = Value.bool b from r); rfl
  | int i => obtain ⟨t, e⟩ := (show ∃ t, u = Value.int i t from r); cases e; rfl
  | str x => obtain ⟨t, e⟩ := (show ∃ t, u = Value.str x t from r); cases e; rfl
  | byt b => obtain ⟨t, e⟩ := (show ∃ t, u = Value.bytes b t from r); cases e; rfl
  | flt b => obtain ⟨t, e⟩ := (show ∃ t, u = Value.float b t from r); cases e; rfl
  | ref a => cases (show u = Value.ref a from r); rfl
  | ty n => cases (show u = Value.type n from r); rfl
section
variable {P : Program} {w : World} {H H' : Hp} {h h' : Heap} {a C dx : Addr} {fs fs' : List (Str × V)}
theorem ins_get (hok : HOk P w H h) (e : H a = some (.ins C dx fs)) : ∃ mA, ObjM h a dx C mA ∧ (∀ f, RelO (fs.lookup f) (mA f)) ∧ PySem.Within mA (fs.map (·.1)) ∧ fs.length ≤ 1000 ∧ H dx = some (.own a) := by
  obtain ⟨d, z, ne, ob, mA, n, r, q⟩ := (show ObjOk P w H h a (.ins C dx fs) from hok a _ e)
  exact ⟨mA, ⟨ob, n, ne⟩, r, q, z, d⟩
end
/-! ### what of the text a class must have -/
structure Cls (K : PySem.W.Frag) (C : Addr) : Prop where
  pg : PySem.W.plainGet K C Str.empty = true
  hd : PySem.W.hasDictIn K C = true
  po : PySem.W.plainOver K C = true
  sa : PySem.W.findIn K (.ref C) "__setattr__" = some (some (.builtin "object.__setattr__"))
theorem Cls.get {K : PySem.W.Frag} {C : Addr} (c : Cls K C) (f : Str) : PySem.W.plainGet K C f = true := c.pg
/-- no class of it has the name -/
def NoAttr (K : PySem.W.Frag) (C : Addr) (f : Str) : Prop := PySem.W.findIn K (.ref C) f = some none
theorem NoAttr.taker {K : PySem.W.Frag} {C : Addr} {f : Str} (n : NoAttr K C f) : PySem.W.takerIn K C f = some none := by
  unfold PySem.W.takerIn
  rw [show PySem.W.findIn K (.ref C) f = some none from n]
  rfl
section
variable {X : Cx} {pins : List (Addr × Obj)} {σ : St} {H : Hp} {s : Shared} {a C dx : Addr} {fs : List (Str × V)} {f : Str} {v : V} {A : Around} {E : Value → Shared → Prop}
theorem getattr_ok {b : Bool} {Q : Value → Shared → Prop} (I : Inv X pins σ H s) (e : H a = some (.ins C dx fs)) (c : Cls X.K C) (n : NoAttr X.K C f) (l : fs.lookup f = some v)
    (h : ∀ u s', Inv X pins σ H s' → RelV v u → Q u s') : wpAny (model X.prog X.w) A (getAttr (.ref a) f b) Q E s := by
  obtain ⟨mA, O, r, _, _, _⟩ := ins_get I.hok e
  obtain ⟨u, hu, ru⟩ := RelO.some_of (v := v) (o := mA f) (by rw [← l]; exact r f)
  exact get_map I.kIn O (c.get f) c.hd n hu (handed_of ru) (h u _ (I.tok _) ru)
theorem setattr_ok {y : V} {u : Value} {Q : Unit → Shared → Prop} (I : Inv X pins σ H s) (e : H a = some (.ins C dx fs)) (c : Cls X.K C) (n : NoAttr X.K C f) (hl : fs.length < 1000) (ry : RelV y u)
    (h : ∀ s', Inv X pins σ (upd H a (.ins C dx (putF f y fs))) s' → Q () s') : wpAny (model X.prog X.w) A (setAttr (.ref a) f u) Q E s := by
  obtain ⟨mA, O, r, wi, _, ho⟩ := ins_get I.hok e
  have hz : (fs.map (·.1)).length ≤ sizeLine := by rw [List.length_map, sizeLine_eq]; omega
  refine set_map I.kIn O c.sa c.po n.taker c.hd wi hz fun h' O' sb => h _ ?_
  have hd : ∃ o, h'.get? dx = some o := let ⟨o, _, _, e', _⟩ := O'.ns; ⟨o, e'⟩
  refine I.write (x := a) (e := dx) (by rw [e]; exact True.intro) (.inr ho) (fun b q hb z => (sb.2 b hb).trans z) hd ?_
  refine ⟨by rw [upd_ne O.ne]; exact ho, ?_, O.ne, O'.obj, _, O'.ns, fun g => ?_, fun g hg => ?_⟩
  · have := length_putF f y fs; omega
  · show RelO ((putF f y fs).lookup g) (if g = f then some u else mA g)
    rw [lookup_putF]
    by_cases q : g = f
    · rw [if_pos q, if_pos q]; exact ry
    · rw [if_neg q, if_neg q]; exact r g
  · by_cases q : g = f
    · rw [q]; exact (keys_putF f y fs).1
    · refine (keys_putF f y fs).2 g (wi g fun z => hg ?_)
      show (if g = f then some u else mA g) = none
      rw [if_neg q]; exact z
/-- a new instance, tracked, without attributes -/
theorem Inv.made (I : Inv X pins σ H s) : Inv X pins σ (upd (upd H s.heap.objs.size (.own (s.heap.objs.size + 1))) (s.heap.objs.size + 1) (.ins C s.heap.objs.size []))
    { s with heap := (s.heap.push PySem.W.emptyDict).push (PySem.W.instObj C s.heap.objs.size) } := by
  have e1 : (s.heap.push PySem.W.emptyDict).get? s.heap.objs.size = some PySem.W.emptyDict := Heap.get?_push_size s.heap rfl
  have e2 : ((s.heap.push PySem.W.emptyDict).push (PySem.W.instObj C s.heap.objs.size)).get? (s.heap.objs.size + 1) = some (PySem.W.instObj C s.heap.objs.size) := by
    have := Heap.get?_push_size (s.heap.push PySem.W.emptyDict) (o := PySem.W.instObj C s.heap.objs.size) rfl
    rwa [Heap.size_push] at this
  have e3 : (s.heap.push PySem.W.emptyDict).Ns s.heap.objs.size (fun _ => none) := ⟨PySem.W.emptyDict, #[], _, e1, rfl, (fun e he => absurd he (by simp)), fun _ => rfl⟩
  have I1 := I.laid (a := s.heap.objs.size) (o := .own (s.heap.objs.size + 1)) (h' := s.heap.push PySem.W.emptyDict) (t' := s.toks) (fun b u q => Heap.get?_push_of_some _ q) (Nat.le_refl _) ⟨_, e1⟩
  refine I1.laid (a := s.heap.objs.size + 1) (o := .ins C s.heap.objs.size []) (t' := s.toks) (fun b u q => Heap.get?_push_of_some _ q) (Nat.le_of_eq (Heap.size_push _ _)) ?_
  have ne : s.heap.objs.size ≠ s.heap.objs.size + 1 := Nat.ne_of_lt (Nat.lt_succ_self _)
  refine ⟨by rw [upd_ne ne, upd_same], Nat.zero_le _, ne, e2, fun _ => none, (Heap.Ns1.of_empty e3).at fun o q => Heap.get?_push_of_some _ q, fun _ => True.intro, fun y hy => absurd rfl hy⟩
/-- e.f where nothing but the object is asked: through attributeBase (super) and the last hold -/
theorem attr_of {prog : Program} {w : World} {env : Env} {e : Expr} {f : Str} {pos : Pos} {s : Shared} {Q : Value → Shared → Prop} (hb : attributeBase e f env (eval e env) = eval e env)
    (h : wpAny (model prog w) A (eval e env) (fun o s₁ => wpAny (model prog w) A (getAttr o f true) Q E s₁) E s) : wpAny (model prog w) A (eval (.Attribute e f pos) env) Q E s :=
  Attribute_any_ h (by rw [arm_eval_Attribute, hb])
end
/-! ### readings and rules -/
/-- e.f, an attribute of the instance -/
def tFld (K : PySem.W.Frag) (ta : TE) (f : Str) : TE := fun σ H Q => ta σ H fun x H1 => ∃ a C dx fs v, x = .ref a ∧ H1 a = some (.ins C dx fs) ∧ Cls K C ∧ NoAttr K C f ∧ fs.lookup f = some v ∧ Q v H1
/-- e.f = value -/
def sFld (K : PySem.W.Frag) (ta tv : TE) (f : Str) : TS := fun D σ H => tv σ H fun y H1 => ta σ H1 fun x H2 => ∃ a C dx fs, x = .ref a ∧ H2 a = some (.ins C dx fs) ∧ Cls K C ∧ NoAttr K C f ∧ fs.length < 1000 ∧
  D.nx σ (upd H2 a (.ins C dx (putF f y fs)))
/-- an augmented operator on two values -/
def InOp (X : Cx) (op : Operator) (rd : V → V → Hp → VK → Prop) : Prop :=
  ∀ (pins : List (Addr × Obj)) (s : Shared) (σ : St) (H : Hp) (x y : V) (u v : Value) (Q : VK), Inv X pins σ H s → RelV x u → RelV y v → rd x y H Q → wpAny (model X.prog X.w) X.A (inplaceOp op u v) (EP X pins σ Q) X.xe s
/-- e.f op= value -/
def sFldAug (K : PySem.W.Frag) (ta tv : TE) (rd : V → V → Hp → VK → Prop) (f : Str) : TS := fun D σ H => ta σ H fun x H1 => ∃ a C dx fs v, x = .ref a ∧ H1 a = some (.ins C dx fs) ∧ Cls K C ∧ NoAttr K C f ∧ fs.lookup f = some v ∧
  tv σ H1 fun y H2 => rd v y H2 fun z H3 => ∃ dx' fs', H3 a = some (.ins C dx' fs') ∧ fs'.length < 1000 ∧ D.nx σ (upd H3 a (.ins C dx' (putF f z fs')))
section
variable {X : Cx} {o e value : Expr} {f : Str} {pos pos' tpos : Pos} {ta tv : TE}
theorem pe_fld (he : PE X e ta) (hb : attributeBase e f X.env (eval e X.env) = eval e X.env) : PE X (.Attribute e f pos) (tFld X.K ta f) := by
  intro pins s σ H Q I h
  refine attr_of hb (thn (he pins s σ H _ I h) fun u s1 ⟨x, H1, I1, rx, a, C, dx, fs, v, ex, ea, c, n, l, q⟩ => ?_)
  subst ex
  obtain rfl : u = Value.ref a := rx
  exact getattr_ok I1 ea c n l fun u' s2 I2 ru => ⟨v, H1, I2, ru, q⟩
theorem ps_fld (ha : PE X o ta) (hv : PE X value tv) (hs : swapsWith value (some (.Attribute o f pos')) pos.line X.env = pure false) : PS X (.Assign [.Attribute o f pos'] value pos) (sFld X.K ta tv f) := by
  intro pins s σ H D I h
  refine plainObj_wpAny_Assign_Attribute (thn (hv pins s σ H _ I h) fun u s1 ⟨y, H1, I1, ry, q⟩ => thn (ha pins s1 σ H1 _ I1 q) fun ov s2 ⟨x, H2, I2, rx, a, C, dx, fs, ex, ea, c, n, l, q2⟩ => ?_) hs
  subst ex
  obtain rfl : ov = Value.ref a := rx
  exact setattr_ok I2 ea c n l ry fun s3 I3 => ⟨σ, _, I3, q2⟩
theorem ps_fldaug {op : Operator} {rd : V → V → Hp → VK → Prop} (ha : PE X o ta) (hv : PE X value tv) (hop : InOp X op rd) : PS X (.AugAssign (.Attribute o f tpos) op value pos) (sFldAug X.K ta tv rd f) := by
  intro pins s σ H D I h
  refine wpAny_AugAssign_AttributeAny (thn (ha pins s σ H _ I h) fun ov s1 ⟨x, H1, I1, rx, a, C, dx, fs, v, ex, ea, c, n, l, q⟩ => ?_)
  subst ex
  obtain rfl : ov = Value.ref a := rx
  refine getattr_ok I1 ea c n l fun u s2 I2 ru => thn (hv pins s2 σ H1 _ I2 q) fun w3 s3 ⟨y, H2, I3, ry, q3⟩ => thn (hop pins s3 σ H2 v y u w3 _ I3 ru ry q3) fun w4 s4 ⟨z, H3, I4, rz, dx', fs', ea', l', q4⟩ => ?_
  exact setattr_ok I4 ea' c n l' rz fun s5 I5 => ⟨σ, _, I5, q4⟩
def rAdd : V → V → Hp → VK → Prop := fun x y H Q => ∃ i j, x = .int i ∧ y = .int j ∧ Q (.int (i + j)) H
def rSub : V → V → Hp → VK → Prop := fun x y H Q => ∃ i j, x = .int i ∧ y = .int j ∧ Q (.int (i - j)) H
theorem in_add : InOp X .Add rAdd := by
  rintro pins s σ H x y u v Q I rx ry ⟨i, j, rfl, rfl, q⟩
  obtain ⟨t, rfl⟩ := (show ∃ t, u = Value.int i t from rx)
  obtain ⟨t', rfl⟩ := (show ∃ t', v = Value.int j t' from ry)
  exact PyProof.Rows.iadd_int ⟨.int (i + j), H, I.tok _, ⟨_, rfl⟩, q⟩
theorem in_sub : InOp X .Sub rSub := by
  rintro pins s σ H x y u v Q I rx ry ⟨i, j, rfl, rfl, q⟩
  obtain ⟨t, rfl⟩ := (show ∃ t, u = Value.int i t from rx)
  obtain ⟨t', rfl⟩ := (show ∃ t', v = Value.int j t' from ry)
  exact PyProof.Rows.isub_int ⟨.int (i - j), H, I.tok _, ⟨_, rfl⟩, q⟩
end
/-! ### isinstance -/
end L2
namespace L2
open PySem PySem.Spec PyProof.Rows
/-! ### room -/
structure Room (k : Nat) (A : Around) : Prop where
  hd : A.handled = none
  dp : A.depth + 3 * k + 5 < recursionLimit
  un : A.units + 16 * k + 200 < cLine
theorem Room.mono {j k : Nat} {A : Around} (r : Room k A) (h : j ≤ k) : Room j A := ⟨r.hd, by have := r.dp; omega, by have := r.un; omega⟩
theorem Room.deeper {k : Nat} {A : Around} (r : Room (k + 1) A) (env : Env) : Room k (A.deeper env) :=
  ⟨r.hd, by have := r.dp; show A.depth + 1 + 3 * k + 5 < _; omega, by have := r.un; show A.units + 3 + 16 * k + 200 < _; omega⟩
theorem make_depth {A : Around} {C : Addr} {us : List Value} {kw : List (Str × Value)} : (A.under (.builtin "type.__call__" ⟨.ref C :: us, kw⟩)).depth = A.depth + 1 := by
  first | rfl | simp [Around.under, Code.weight, Code.isCreation, Code.isGuard, Code.isCaller, Code.frames, Code.isFrame, guardIds]
theorem make_units {A : Around} {C : Addr} {us : List Value} {kw : List (Str × Value)} : (A.under (.builtin "type.__call__" ⟨.ref C :: us, kw⟩)).units = A.units + 1 := by
  first | rfl | simp [Around.under, Code.cUnits, Code.frames, Code.isFrame]
theorem Room.make {k : Nat} {A : Around} (r : Room (k + 1) A) (C : Addr) (us : List Value) (kw : List (Str × Value)) : Room k (A.under (.builtin "type.__call__" ⟨.ref C :: us, kw⟩)) :=
  ⟨r.hd, by have := r.dp; rw [make_depth]; omega, by have := r.un; rw [make_units]; omega⟩
theorem Room.depth {k : Nat} {A : Around} (r : Room k A) : A.depth < recursionLimit := by have := r.dp; omega
/-! ### argument lists and displays -/
def tNil : TA := fun _ H Q => Q [] H
def tCons (ta : TE) (tr : TA) : TA := fun σ H Q => ta σ H fun x H1 => tr σ H1 fun xs H2 => Q (x :: xs) H2
section
variable {X : Cx} {e : Expr} {es : List Expr} {te : TE} {t : TA} {pos : Pos}
theorem pa_nil : PA X [] tNil := fun _ _ _ _ H Q I h => Calls.spliced_nil ⟨[], H, I, .nil, h⟩
theorem pa_cons (ha : PE X e te) (hr : PA X es t) (hs : starEach (e :: es) X.env = (false, eval e X.env) :: starEach es X.env := by rfl) : PA X (e :: es) (tCons te t) := by
  intro pos pins s σ H Q I h
  rw [hs]
  show wpAny _ _ (spliced ((false, eval e X.env) :: backTo pos (starEach es X.env))) _ _ s
  refine Calls.spliced_cons (thn (ha pins s σ H _ I h) fun u s1 ⟨x, H1, I1, r1, q1⟩ => ?_)
  exact thn (hr pos pins s1 σ H1 _ I1 q1) fun us s2 ⟨xs, H2, I2, r2, q2⟩ => ⟨x :: xs, H2, I2, .cons r1 r2, q2⟩
def tLst (t : TA) : TE := fun σ H Q => t σ H fun xs H1 => xs.length ≤ sizeLine ∧ ∀ p, H1 p = none → Q (.ref p) (upd H1 p (.lst xs))
theorem pe_lst (h : PA X es t) : PE X (.List es pos) (tLst t) := by
  intro pins s σ H Q I hq
  refine wpAny_List_spliced (thn (h pos pins s σ H _ I hq) fun us s1 ⟨xs, H1, I1, r, z, q⟩ => ⟨by rw [← r.length]; exact z, ?_⟩)
  have hf : H1 s1.heap.objs.size = none := I1.hok.fresh (Nat.le_refl _)
  refine ⟨.ref s1.heap.objs.size, upd H1 s1.heap.objs.size (.lst xs), I1.laid (t' := s1.toks) (fun b u e => Heap.get?_push_of_some _ e) (Nat.le_refl _) ?_, rfl, q _ hf⟩
  exact ⟨z, us, 0, r, Heap.get?_push_size _ rfl⟩
end
/-! ### what a def promises -/
/-- a def's promise: the bound arguments in the parameters' order, the heap, the wanted end, the wanted exception -/
abbrev Sp := List V → Hp → VK → XK → Prop
/-- how an exception lies behind a call (file 08 gives it): the callers' frames, abstract heap and state ahead of the call, the wish, the exception, the state -/
abbrev CXT := List Env → Hp → Shared → XK → Value → Shared → Prop
/-- the state at a call -/
structure Env0 (P : Program) (w : World) (K : PySem.W.Frag) (mg : Str → Option Value) (base : Heap) (A : Around) (outer : List Env) (s : Shared) (H : Hp) : Prop where
  frames : A.frames = some outer
  mod : Mod K mg base
  bs : ∀ b o, base.get? b = some o → s.heap.get? b = some o ∧ H b = none
  bsz : base.objs.size ≤ s.heap.objs.size
  funs : s.heap.FunFrames base outer
  frf : ∀ b ∈ frs outer, H b = none
  hok : HOk P w H s.heap
  bare : AllBare s.gens
/-- a call's end -/
def CE (outer : List Env) (P : Program) (w : World) (H : Hp) (s : Shared) (Q : VK) (u : Value) (s' : Shared) : Prop :=
  ∃ v H', s'.os = s.os ∧ AllBare s'.gens ∧ Un (frs outer) [] H H' s.heap s'.heap ∧ HOk P w H' s'.heap ∧ RelV v u ∧ Q v H'
def CR (CX : CXT) (outer : List Env) (P : Program) (w : World) (H : Hp) (s : Shared) (Q : VK) (E : XK) (r : Result) (s' : Shared) : Prop :=
  match r with
  | .ok (.ret u) => CE outer P w H s Q u s'
  | .ok _ => False
  | .error e => CX outer H s E e s'
structure FnOk (P : Program) (w : World) (K : PySem.W.Frag) (mg : Str → Option Value) (base : Heap) (CX : CXT) (k : Nat) (f : Addr) (fd : FuncData) (ps : List Str) (sp : Sp) : Prop where
  len : ∀ vs H Q E, sp vs H Q E → vs.length = ps.length
  run : ∀ (A : Around) (outer : List Env) (s : Shared) (H : Hp) (args : Args) (us : List Value) (vs : List V) (Q : VK) (E : XK), Room k A → Env0 P w K mg base A outer s H → BindsTo s fd args (ps.zip us) → Vals vs us → sp vs H Q E →
    codeAny (model P w) A (.call (.ref f) args) (CR CX outer P w H s Q E) s
theorem FnOk.mono {P : Program} {w : World} {K : PySem.W.Frag} {mg : Str → Option Value} {base : Heap} {CX : CXT} {j k : Nat} {f : Addr} {fd : FuncData} {ps : List Str} {sp : Sp} (F : FnOk P w K mg base CX j f fd ps sp) (h : j ≤ k) :
    FnOk P w K mg base CX k f fd ps sp := ⟨F.len, fun A outer s H args us vs Q E hr => F.run A outer s H args us vs Q E (hr.mono h)⟩
theorem Env0.make {P : Program} {w : World} {K : PySem.W.Frag} {mg : Str → Option Value} {base : Heap} {A : Around} {outer : List Env} {s : Shared} {H : Hp} (e : Env0 P w K mg base A outer s H) (C : Addr) (us : List Value) (kw : List (Str × Value)) :
    Env0 P w K mg base (A.under (.builtin "type.__call__" ⟨.ref C :: us, kw⟩)) outer s H := ⟨by first | exact e.frames | (simpa [Around.under, Code.envs, Code.isFrame, pushEnvs] using e.frames), e.mod, e.bs, e.bsz, e.funs, e.frf, e.hok, e.bare⟩
section
variable {X : Cx} {pins : List (Addr × Obj)} {σ : St} {H : Hp} {s s' : Shared}
/-- from a body: what a callee wants -/
theorem Inv.env0 (I : Inv X pins σ H s) : Env0 X.prog X.w X.K X.mg X.base X.A X.stack s H :=
  ⟨I.ok.frames, I.ok.mod, I.bs, Nat.le_trans I.ok.bsz I.sz, I.stack, I.stkFree, I.hok, I.bare⟩
/-- behind a call -/
theorem Inv.after {Q : VK} {u : Value} (I : Inv X pins σ H s) (h : CE X.stack X.prog X.w H s Q u s') : EP X pins σ Q u s' := by
  obtain ⟨v, H', os, bare, un, hok, r, q⟩ := h
  obtain ⟨hh, g, d, t, os'⟩ := s'
  obtain rfl : os' = s.os := os
  exact ⟨v, H', I.call (h' := hh) (g' := g) (d' := d) (t' := t) (ch := []) un hok bare (fun b z => absurd z (by simp)), r, q⟩
end
/-! ### calls -/
/-- f(..): the written arguments, then the defaults dvs; E: what is wanted of an exception -/
def tCall (sp : Sp) (dvs : List V) (E : XK) (t : TA) : TE := fun σ H Q => t σ H fun vs H1 => sp (vs ++ dvs) H1 Q E
/-- C(..): a new instance and its dict, then __init__ -/
def tMake (C : Addr) (sp : Sp) (dvs : List V) (E : XK) (t : TA) : TE := fun σ H Q => t σ H fun vs H1 => ∀ x dx, H1 x = none → H1 dx = none → dx ≠ x →
  sp (.ref x :: (vs ++ dvs)) (upd (upd H1 dx (.own x)) x (.ins C dx [])) (fun v H2 => v = .non ∧ Q (.ref x) H2) E
/-- how the parameters are bound: us the positional arguments, kw the keywords' values by name, ds the defaults that fill up -/
def Binds (K : PySem.W.Frag) (fd : FuncData) (ps : List Str) (ds : List Value) : Prop :=
  ∀ (s : Shared) (us : List Value), K.In s.heap → (us ++ ds).length = ps.length → BindsTo s fd ⟨us, []⟩ (ps.zip (us ++ ds))
/-- every parameter is given -/
theorem Binds.all {K : PySem.W.Frag} {fd : FuncData} {ps : List Str} (h : ∀ us : List Value, us.length = ps.length → bindArgs fd ⟨us, []⟩ = pure (ps.zip us)) : Binds K fd ps [] := fun s us _ hl => by
  rw [List.append_nil] at hl ⊢
  exact .of_eq (h us hl)
/-- an exception of a callee reaches what this body wants of exceptions -/
def Passes (CX : CXT) (X : Cx) (E : XK) : Prop := ∀ (pins : List (Addr × Obj)) (σ : St) (H : Hp) (s : Shared) (e : Value) (s' : Shared), Inv X pins σ H s → CX X.stack H s E e s' → X.xe e s'
section
variable {X : Cx} {CX : CXT} {k : Nat} {f C : Addr} {fd : FuncData} {ps : List Str} {sp : Sp} {dvs : List V} {ds : List Value} {E : XK} {x m : Str} {p pos apos : Pos} {e o : Expr} {es : List Expr} {ta : TE} {t : TA}
/-- the callee runs -/
theorem run_fn {pins : List (Addr × Obj)} {σ : St} {H : Hp} {s : Shared} {Q : VK} {us : List Value} {vs : List V} (F : FnOk X.prog X.w X.K X.mg X.base CX k f fd ps sp) (hr : Room k X.A) (hb : Binds X.K fd ps ds) (hd : Vals dvs ds) (hx : Passes CX X E)
    (I : Inv X pins σ H s) (r : Vals vs us) (h : sp (vs ++ dvs) H Q E) : wpAny (model X.prog X.w) X.A (call (.ref f) us) (EP X pins σ Q) X.xe s := by
  have r2 : Vals (vs ++ dvs) (us ++ ds) := r.append hd
  have hl : (us ++ ds).length = ps.length := by rw [← r2.length]; exact F.len _ _ _ _ h
  refine wpAny_call (codeAny_mono (F.run X.A X.stack s H ⟨us, []⟩ (us ++ ds) (vs ++ dvs) Q E hr I.env0 (hb s us I.kIn hl) r2 h) fun r s' hq => ?_)
  cases r with
  | error e => exact hx pins σ H s e s' I hq
  | ok fl =>
    cases fl with
    | ret u => exact I.after hq
    | next => exact False.elim hq
    | brk => exact False.elim hq
    | cont => exact False.elim hq
theorem pe_call (F : FnOk X.prog X.w X.K X.mg X.base CX k f fd ps sp) (hr : Room k X.A) (hg : Gl X x) (hm : X.mg x = some (.ref f)) (hk : PySem.W.keepIn X.K (.ref f) = true) (hb : Binds X.K fd ps ds) (hd : Vals dvs ds) (hx : Passes CX X E)
    (ha : PA X (e :: es) t) (hdb : (x == ("__debug__" : Str)) = false := by decide) (he : starEach (e :: es) X.env = (false, eval e X.env) :: starEach es X.env := by rfl) (hpl : (backTo pos (starEach es X.env)).any (·.1) = false := by rfl) :
    PE X (.Call (.Name x p) (e :: es) [] pos) (tCall sp dvs E t) := by
  intro pins s σ H Q I h
  refine wpAny_Call_Name_kw (ld_glob I hg hm ?_ hdb)
  refine PySem.W.callWith_K (h₀ := X.base) I.ok.mod.kin hk (thn (ha pos pins s σ H _ I h) fun us s1 ⟨vs, H1, I1, r, q⟩ => ⟨I1.kIn, ?_⟩) he hpl
  exact run_fn F hr hb hd hx I1 r q
/-- what a class must have to be made -/
structure Mk (K : PySem.W.Frag) (C f : Addr) : Prop where
  makes : PySem.W.makesIn K C = true
  init : PySem.W.findIn K (.ref C) "__init__" = some (some (.ref f))
  fn : PySem.W.isFn K (.ref f) = true
  kp : PySem.W.keepIn K (.ref C) = true
theorem run_make {pins : List (Addr × Obj)} {σ : St} {H : Hp} {s : Shared} {Q : VK} {us : List Value} {vs : List V} (M : Mk X.K C f) (F : FnOk X.prog X.w X.K X.mg X.base CX k f fd ps sp) (hr : Room (k + 1) X.A) (hb : Binds X.K fd ps ds) (hd : Vals dvs ds)
    (hx : Passes CX X E) (I : Inv X pins σ H s) (r : Vals vs us)
    (h : ∀ x dx, H x = none → H dx = none → dx ≠ x → sp (.ref x :: (vs ++ dvs)) (upd (upd H dx (.own x)) x (.ins C dx [])) (fun v H2 => v = .non ∧ Q (.ref x) H2) E) :
    wpAny (model X.prog X.w) X.A (call (.ref C) us) (EP X pins σ Q) X.xe s := by
  have hq := h (s.heap.objs.size + 1) s.heap.objs.size (I.hok.fresh (Nat.le_succ _)) (I.hok.fresh (Nat.le_refl _)) (Nat.ne_of_lt (Nat.lt_succ_self _))
  have I2 := Inv.made (C := C) I
  have r2 : Vals (V.ref (s.heap.objs.size + 1) :: (vs ++ dvs)) (Value.ref (s.heap.objs.size + 1) :: (us ++ ds)) := .cons rfl (r.append hd)
  have hl : (Value.ref (s.heap.objs.size + 1) :: us ++ ds).length = ps.length := by
    have e := r2.length
    rw [F.len _ _ _ _ hq] at e
    exact e.symm
  refine wpAny_call (make_map (f := f) I.kIn M.makes M.init (beq_iff_eq.mp M.fn) (codeAny_mono (F.run _ X.stack _ _ ⟨Value.ref (s.heap.objs.size + 1) :: us, []⟩ (Value.ref (s.heap.objs.size + 1) :: (us ++ ds)) _ _ E (hr.make C us [])
    (I2.env0.make C us []) (hb _ (Value.ref (s.heap.objs.size + 1) :: us) I2.kIn hl) r2 hq) fun r s' hq' => ?_))
  cases r with
  | error e => exact hx pins σ _ _ e s' I2 hq'
  | ok fl =>
    cases fl with
    | ret u =>
      obtain ⟨v, H', I3, rv, ev, q3⟩ := I2.after hq'
      subst ev
      exact ⟨rv, ⟨V.ref (s.heap.objs.size + 1), H', I3, rfl, q3⟩⟩
    | next => exact False.elim hq'
    | brk => exact False.elim hq'
    | cont => exact False.elim hq'
theorem pe_make (M : Mk X.K C f) (F : FnOk X.prog X.w X.K X.mg X.base CX k f fd ps sp) (hr : Room (k + 1) X.A) (hg : Gl X x) (hm : X.mg x = some (.ref C)) (hb : Binds X.K fd ps ds) (hd : Vals dvs ds) (hx : Passes CX X E)
    (ha : PA X (e :: es) t) (hdb : (x == ("__debug__" : Str)) = false := by decide) (he : starEach (e :: es) X.env = (false, eval e X.env) :: starEach es X.env := by rfl) (hpl : (backTo pos (starEach es X.env)).any (·.1) = false := by rfl) :
    PE X (.Call (.Name x p) (e :: es) [] pos) (tMake C sp dvs E t) := by
  intro pins s σ H Q I h
  refine wpAny_Call_Name_kw (ld_glob I hg hm ?_ hdb)
  refine PySem.W.callWith_K (h₀ := X.base) I.ok.mod.kin M.kp (thn (ha pos pins s σ H _ I h) fun us s1 ⟨vs, H1, I1, r, q⟩ => ⟨I1.kIn, ?_⟩) he hpl
  exact run_make M F hr hb hd hx I1 r q
theorem pe_make0 (M : Mk X.K C f) (F : FnOk X.prog X.w X.K X.mg X.base CX k f fd ps sp) (hr : Room (k + 1) X.A) (hg : Gl X x) (hm : X.mg x = some (.ref C)) (hb : Binds X.K fd ps ds) (hd : Vals dvs ds) (hx : Passes CX X E)
    (hdb : (x == ("__debug__" : Str)) = false := by decide) : PE X (.Call (.Name x p) [] [] pos) (tMake C sp dvs E tNil) := by
  intro pins s σ H Q I h
  refine wpAny_Call_Name_kw (ld_glob I hg hm ?_ hdb)
  exact PySem.W.callWith_K0 I.kIn M.kp (run_make (us := []) M F hr hb hd hx I .nil h)
end
/-! ### keywords -/
/-! ### a def's body keeps its promise -/
/-- names: the parameters first -/
structure FnScope (N P : List Str) (sc : Scope) : Prop where
  kind : sc.kind = .function
  co : sc.isCoroutine = false
  gen : sc.isGenerator = false
  nd : N.Nodup
  pre : N.take P.length = P
  par : ∀ x ∈ P, sc.names.lookup x = some .local ∨ sc.names.lookup x = some .cell
  nofree : ∀ y ∈ sc.names, y.2 ≠ .free
theorem bindL_out {kindOf : Str → Option NameKind} {x : Str} : ∀ {binds : List (Str × Value)} {m : Str → Option Value}, (∀ v, (x, v) ∉ binds) → bindL kindOf binds m x = m x
  | [], _, _ => rfl
  | (n, v) :: r, m, h => by
    unfold bindL
    rw [bindL_out fun w hw => h w (List.mem_cons_of_mem _ hw)]
    split
    · have : x ≠ n := by rintro rfl; exact h v List.mem_cons_self
      simp [this]
    · rfl
theorem bindC_out {kindOf : Str → Option NameKind} {x : Str} : ∀ {binds : List (Str × Value)} {m : Str → Option Value}, (∀ v, (x, v) ∉ binds) → bindC kindOf binds m x = m x
  | [], _, _ => rfl
  | (n, v) :: r, m, h => by
    unfold bindC
    rw [bindC_out fun w hw => h w (List.mem_cons_of_mem _ hw)]
    split
    · rfl
    · have : x ≠ n := by rintro rfl; exact h v List.mem_cons_self
      simp [this]
theorem bindL_get {kindOf : Str → Option NameKind} {x : Str} {v : Value} : ∀ {P : List Str} {vs : List Value} {i : Nat} {m : Str → Option Value}, P.Nodup → P[i]? = some x → vs[i]? = some v → kindOf x = some .local →
    bindL kindOf (P.zip vs) m x = some v
  | [], _, _, _, _, h, _, _ => by simp at h
  | _ :: _, [], _, _, _, _, h, _ => by simp at h
  | p :: P, w :: vs, 0, m, nd, h1, h2, hk => by
    simp at h1 h2; subst h1; subst h2
    show bindL kindOf ((p, w) :: P.zip vs) m p = _
    unfold bindL
    rw [bindL_out fun v hv => (List.nodup_cons.mp nd).1 (List.of_mem_zip hv).1, if_pos hk]
    simp
  | p :: P, w :: vs, i + 1, m, nd, h1, h2, hk => by
    show bindL kindOf ((p, w) :: P.zip vs) m x = _
    unfold bindL
    exact bindL_get (i := i) (List.nodup_cons.mp nd).2 (by simpa using h1) (by simpa using h2) hk
theorem bindC_get {kindOf : Str → Option NameKind} {x : Str} {v : Value} : ∀ {P : List Str} {vs : List Value} {i : Nat} {m : Str → Option Value}, P.Nodup → P[i]? = some x → vs[i]? = some v → kindOf x ≠ some .local →
    bindC kindOf (P.zip vs) m x = some v
  | [], _, _, _, _, h, _, _ => by simp at h
  | _ :: _, [], _, _, _, _, h, _ => by simp at h
  | p :: P, w :: vs, 0, m, nd, h1, h2, hk => by
    simp at h1 h2; subst h1; subst h2
    show bindC kindOf ((p, w) :: P.zip vs) m p = _
    unfold bindC
    rw [bindC_out fun v hv => (List.nodup_cons.mp nd).1 (List.of_mem_zip hv).1, if_neg hk]
    simp
  | p :: P, w :: vs, i + 1, m, nd, h1, h2, hk => by
    show bindC kindOf ((p, w) :: P.zip vs) m x = _
    unfold bindC
    exact bindC_get (i := i) (List.nodup_cons.mp nd).2 (by simpa using h1) (by simpa using h2) hk
/-- the names' values at the entry -/
def start (N : List Str) (vs : List V) : St := vs.map some ++ List.replicate (N.length - vs.length) none
/-- the context of a def's body, at its entry; an exception leaves the frame, then lies as CX says -/
def cxOf (CX : CXT) (P : Program) (w : World) (K : PySem.W.Frag) (mg : Str → Option Value) (base : Heap) (N : List Str) (qual : Str) (scope : Scope) (f : Addr) (cd : Value) (A : Around) (outer : List Env) (s : Shared) (H : Hp) (E : XK) : Cx where
  prog := P
  w := w
  K := K
  mg := mg
  base := base
  A := A.deeper (envOfC qual scope s.heap.objs.size f cd)
  N := N
  s_0 := s
  H_0 := H
  env := envOfC qual scope s.heap.objs.size f cd
  outer := outer
  stack := envOfC qual scope s.heap.objs.size f cd :: outer
  ex := []
  calm := true
  fn := fun _ => true
  pn := []
  xe := fun e s' => wpAny (model P w) (A.deeper (envOfC qual scope s.heap.objs.size f cd)) (leaving (envOfC qual scope s.heap.objs.size f cd) e) (fun _ s'' => CX outer H s E e s'') (fun e' s'' => CX outer H s E e' s'') s'
theorem cell_has {sc : Scope} {n : Nat} {x : Str} (h : sc.names.lookup x = some .cell) : ∃ c, (cellsFrom n sc.names []).lookup x = some c := by
  have q := PySem.W.cellsFrom_some sc.names n [] (.inl h)
  exact Option.isSome_iff_exists.mp q
theorem inv_start {CX : CXT} {P : Program} {w : World} {K : PySem.W.Frag} {mg : Str → Option Value} {base : Heap} {N ps : List Str} {qual : Str} {scope : Scope} {f : Addr} {cd : Value} {A : Around} {outer : List Env} {s s1 : Shared} {H : Hp} {E : XK} {us : List Value} {vs : List V}
    (S : FnScope N ps scope) (hd : A.handled = none) (e0 : Env0 P w K mg base A outer s H) (hl : vs.length = ps.length) (r : Vals vs us)
    (x : InCallC s s.heap.objs.size (bindL (envOfC qual scope s.heap.objs.size f cd).kindOf (ps.zip us) fun _ => none) (cellsFrom (s.heap.objs.size + 1) scope.names []) (bindC (envOfC qual scope s.heap.objs.size f cd).kindOf (ps.zip us) fun _ => none) s1) :
    Inv (cxOf CX P w K mg base N qual scope f cd A outer s H E) [] (start N vs) H s1 := by
  have hpl : ps.length ≤ N.length := by have := congrArg List.length S.pre; rw [List.length_take] at this; omega
  obtain ⟨h1, tk, rfl, hk⟩ := x.done
  have noA : ∀ b : Addr, b ∉ (cxOf CX P w K mg base N qual scope f cd A outer s H E).ex := fun b z => absurd (show b ∈ ([] : List Addr) from z) (by simp)
  refine ⟨⟨e0.mod, S.kind, rfl, rfl, Nat.le_refl _, fun y z c h1 h2 => ?_, fun y hy => ?_, fun y c _ h => ?_, fun _ => hd, Around.frames_deeper e0.frames, .inr ⟨rfl, rfl⟩, fun b z => absurd z (noA b), e0.bs, e0.bsz, fun b _ _ => noA b, fun b z => absurd z (noA b), e0.funs, e0.frf⟩,
    rfl, e0.bare, Un.kept hk, ⟨_, x.toInCall.ns, fun i y v h1 h2 h3 => ?_⟩, fun y c h => ⟨_, x.cell y c h⟩, e0.hok.fresh (Nat.le_refl _), fun y c h => ?_, fun p hp => absurd (show p ∈ ([] : List (Addr × Obj)) from hp) (by simp), e0.hok.kept hk, ?_⟩
  · exact name_of_addr x.apart (PySem.mem_of_lookup h1) (PySem.mem_of_lookup h2)
  · have hy : scope.names.lookup y = some .cell ∨ scope.names.lookup y = some .free := hy
    rcases hy with hy | hy
    · exact cell_has hy
    · exact absurd rfl (S.nofree _ (PySem.mem_of_lookup hy))
  · exact Nat.le_of_lt (x.above y c (PySem.mem_of_lookup h))
  · have hi : i < vs.length := by
      unfold start at h2
      by_cases hi : i < vs.length
      · exact hi
      · rw [List.getElem?_append_right (by simpa using hi)] at h2
        rw [List.getElem?_replicate] at h2
        split at h2 <;> cases h2
    have ha : vs[i]? = some v := by
      unfold start at h2
      rw [List.getElem?_append_left (by simpa using hi), List.getElem?_map] at h2
      cases e : vs[i]? with
      | none => rw [e] at h2; cases h2
      | some a => rw [e] at h2; cases h2; rfl
    obtain ⟨u, hu, rv⟩ := r.get ha
    have hp : ps[i]? = some y := by
      rw [← S.pre, List.getElem?_take_of_lt (by omega)]; exact h1
    have ndP : ps.Nodup := by rw [← S.pre]; exact S.nd.sublist (List.take_sublist _ _)
    refine ⟨u, rv, ?_⟩
    rcases S.par y (List.mem_of_getElem? hp) with k | k
    · exact .inl ⟨k, bindL_get ndP hp hu k⟩
    · obtain ⟨c, e⟩ := cell_has (n := s.heap.objs.size + 1) k
      refine .inr ⟨.inl k, c, e, ?_⟩
      have q := x.cell y c e
      rw [bindC_get ndP hp hu (by show scope.names.lookup y ≠ _; rw [k]; decide)] at q
      exact q
  · exact e0.hok.fresh (Nat.le_of_lt (x.above y c (PySem.mem_of_lookup h)))
  · unfold start
    show _ = N.length
    rw [List.length_append, List.length_map, List.length_replicate]
    omega
/-- THE RULE: a def (or a method) of the text, by its body. The body's reading t is chosen for each entry; it is run at the parameters' values -/
theorem fn_of {CX : CXT} {P : Program} {w : World} {K : PySem.W.Frag} {mg : Str → Option Value} {base : Heap} {k : Nat} {f : Addr} {name qual : Str} {params : Arguments} {body : List Stmt} {scope : Scope} {dV kV doc pm cdv ct oc : Value} {an od : Option Addr}
    {osl : Array (Option Value)} {N ps : List Str} {sp : Sp} (lk : K.lookup f = some ⟨oc, od, .func (PySem.W.fnOf name qual params body scope dV kV doc pm an cdv ct), osl⟩) (hcd : PySem.W.codeIn K cdv qual = true) (S : FnScope N ps scope)
    (len : ∀ vs H Q E, sp vs H Q E → vs.length = ps.length)
    (hbody : ∀ (A : Around) (outer : List Env) (s : Shared) (H : Hp) (vs : List V) (Q : VK) (E : XK), Room k (A.deeper (envOfC qual scope s.heap.objs.size f cdv)) → sp vs H Q E →
      ∃ t, PSs (cxOf CX P w K mg base N qual scope f cdv A outer s H E) body t ∧ t { nx := fun _ H' => Q .non H', rt := Q } (start N vs) H) :
    FnOk P w K mg base CX (k + 1) f (PySem.W.fnOf name qual params body scope dV kV doc pm an cdv ct) ps sp := by
  refine ⟨len, fun A outer s H args us vs Q E hr e0 hb r hsp => ?_⟩
  have hl := len _ _ _ _ hsp
  have KX : K.In s.heap := e0.mod.kin.keeps fun b o e => (e0.bs b o e).1
  have lim : s.heap.NoLimit := e0.mod.nolimit.keeps fun b o e => (e0.bs b o e).1
  have hkind : ∀ y ∈ ps.zip us, scope.names.lookup y.1 = some .local ∨ (scope.names.lookup y.1 = some .cell ∧ ((cellsFrom (s.heap.objs.size + 1) scope.names []).lookup y.1).isSome = true) := fun ⟨n, v⟩ hy => by
    rcases S.par n (List.of_mem_zip hy).1 with q | q
    · exact .inl q
    · exact .inr ⟨q, PySem.W.cellsFrom_some _ _ _ (.inl q)⟩
  refine codeAny_call_function hr.depth (KX _ _ lk) rfl S.co S.gen rfl (PySem.W.codeRec_of KX hcd) (hb _ _ _ _ ?_)
  refine wpAny_newFunctionEnv_cells S.kind hkind fun env he s1 x => ?_
  subst he
  refine ⟨lim.keeps x.toInCall.keep, codeAny_func ?_⟩
  obtain ⟨t, ht, hq⟩ := hbody A outer s H vs Q E (hr.deeper _) hsp
  have I : Inv (cxOf CX P w K mg base N qual scope f cdv A outer s H E) [] (start N vs) H s1 := inv_start S hr.hd e0 hl r x
  refine wpAny_mono (ht [] s1 (start N vs) H _ I hq) (fun fl s' hs => ?_) fun e s' hs => hs
  have fin : ∀ {σ' : St} {H' : Hp} {v : V} {u : Value}, Inv (cxOf CX P w K mg base N qual scope f cdv A outer s H E) [] σ' H' s' → RelV v u → Q v H' → CE outer P w H s Q u s' :=
    fun {σ' H' v u} J rv q => ⟨v, H', J.os, J.bare, J.base, J.hok, rv, q⟩
  cases fl with
  | ret u =>
    obtain ⟨v, σ', H', J, rv, q⟩ := hs
    exact fin J rv q
  | next =>
    obtain ⟨σ', H', J, q⟩ := hs
    exact fin (v := V.non) (u := Value.none) J rfl q
  | brk =>
    obtain ⟨_, _, _, q⟩ := hs
    exact False.elim q
  | cont =>
    obtain ⟨_, _, _, q⟩ := hs
    exact False.elim q
end L2
namespace L2
open PySem PySem.Spec PyProof.Rows
section
variable {X : Cx} {x : Str} {p pos : Pos} {e : Expr} {es : List Expr} {t : TA} {id T : String} {r : List V → Hp → VK → Prop}
def tCB (r : List V → Hp → VK → Prop) (t : TA) : TE := fun σ H Q => t σ H fun vs H1 => r vs H1 Q
/-- f(e, ..), f a built-in function -/
theorem pe_callB (hc : CallR X (.builtin id) r) (hg : Gl X x) (hm : X.mg x = none) (hv : bootBuiltins x = some (.builtin id)) (ha : PA X (e :: es) t) (hn : x ≠ "__name__" := by decide) (hdb : (x == ("__debug__" : Str)) = false := by decide)
    (he : starEach (e :: es) X.env = (false, eval e X.env) :: starEach es X.env := by rfl) (hpl : (backTo pos (starEach es X.env)).any (·.1) = false := by rfl) : PE X (.Call (.Name x p) (e :: es) [] pos) (tCB r t) := by
  intro pins s σ H Q I h
  refine wpAny_Call_Name_kw (ld_blt I hg hm hv ?_ hn hdb)
  exact PyProof.Rows.callWith_builtin1 (thn (ha pos pins s σ H _ I h) fun us s1 ⟨vs, H1, I1, r1, q1⟩ => hc pins s1 σ H1 vs us Q I1 r1 q1) he hpl
/-- T(e, ..), T a built-in type -/
theorem pe_callTy (hc : CallR X (.type T) r) (hg : Gl X x) (hm : X.mg x = none) (hv : bootBuiltins x = some (.type T)) (ha : PA X (e :: es) t) (hn : x ≠ "__name__" := by decide) (hdb : (x == ("__debug__" : Str)) = false := by decide)
    (he : starEach (e :: es) X.env = (false, eval e X.env) :: starEach es X.env := by rfl) (hpl : (backTo pos (starEach es X.env)).any (·.1) = false := by rfl) : PE X (.Call (.Name x p) (e :: es) [] pos) (tCB r t) := by
  intro pins s σ H Q I h
  refine wpAny_Call_Name_kw (ld_blt I hg hm hv ?_ hn hdb)
  exact PyProof.Rows.callWith_type1 (thn (ha pos pins s σ H _ I h) fun us s1 ⟨vs, H1, I1, r1, q1⟩ => hc pins s1 σ H1 vs us Q I1 r1 q1) he hpl
end
end L2
namespace HT
open PySem PyProof.Rows
section
variable {prog : Program} {w : World} {A : Around} {E : Value → Shared → Prop} {s : Shared}
/-! ### t[a:b], not the whole -/
/-- a slice's bound as a place among n (d where it is left out) -/
def sIx (n d : Nat) : Option Int → Nat
  | none => d
  | some v => if v < 0 then (v + (n : Int)).toNat else min v.toNat n
theorem sIx_none (n d : Nat) : sIx n d none = d := rfl
theorem sIx_nat (n d k : Nat) : sIx n d (some (k : Int)) = min k n := by
  show (if (k : Int) < 0 then ((k : Int) + (n : Int)).toNat else min (k : Int).toNat n) = min k n
  rw [if_neg (by omega), Int.toNat_natCast]
end
end HT
namespace L2
open PySem PySem.Spec PyProof.Rows
/-! ### the parts of a slice -/
abbrev TO := St → Hp → (Option Int → Hp → Prop) → Prop
/-- a slice's part (left out, or an int) -/
def PO (X : Cx) (e : Option Expr) (t : TO) : Prop :=
  ∀ (pins : List (Addr × Obj)) (s : Shared) (σ : St) (H : Hp) (Q : Option Int → Hp → Prop), Inv X pins σ H s → t σ H Q →
    wpAny (model X.prog X.w) X.A (evalPart e X.env) (fun u s' => ∃ o H', Inv X pins σ H' s' ∧ IsPart u o ∧ Q o H') X.xe s
def tNoPart : TO := fun _ H Q => Q none H
def tPart (t : TE) : TO := fun σ H Q => t σ H fun x H1 => ∃ i, x = .int i ∧ Q (some i) H1
section
variable {X : Cx} {e : Expr} {te : TE} {lo hi : Option Expr} {tl th : TO} {pos p2 : Pos}
theorem po_none : PO X none tNoPart := by
  intro pins s σ H Q I h
  rw [evalPart_none]
  exact wpAny_pure ⟨none, H, I, .none, h⟩
theorem po_some (h : PE X e te) : PO X (some e) (tPart te) := by
  intro pins s σ H Q I hw
  rw [evalPart_some]
  refine thn (h pins s σ H _ I hw) fun u s1 ⟨x, H1, I1, r1, q1⟩ => ?_
  obtain ⟨i, rfl, q⟩ := q1
  obtain ⟨t, rfl⟩ := r1
  exact ⟨some i, H1, I1, .int i t, q⟩
/-- what a slice of a value is, by values: the slice object stands at sl -/
def SlR (X : Cx) (r : V → Option Int → Option Int → Hp → VK → Prop) : Prop :=
  ∀ (pins : List (Addr × Obj)) (s : Shared) (σ : St) (H : Hp) (x : V) (v vl vu : Value) (lo hi : Option Int) (sl : Addr) (Q : VK), Inv X pins σ H s → RelV x v → s.heap.IsSliceOf sl vl vu .none → IsPart vl lo → IsPart vu hi → r x lo hi H Q →
    ∃ T id, typeLookup (.type T) "__getitem__" = pure (some (.builtin id)) ∧ s.TypeIs v T ∧ wpAny (model X.prog X.w) X.A (getItem v (.ref sl)) (EP X pins σ Q) X.xe s
def tSl (r : V → Option Int → Option Int → Hp → VK → Prop) (te : TE) (tl th : TO) : TE := fun σ H Q => te σ H fun x H1 => tl σ H1 fun l H2 => th σ H2 fun u H3 => r x l u H3 Q
/-- a[lo:hi], any a -/
theorem pe_slice {r : V → Option Int → Option Int → Hp → VK → Prop} (hr : SlR X r) (he : PE X e te) (hl : PO X lo tl) (hu : PO X hi th) : PE X (.Subscript e (.Slice lo hi none p2) pos) (tSl r te tl th) := by
  intro pins s σ H Q I h
  refine Subscript_ (thn (he pins s σ H _ I h) fun v s1 ⟨x, H1, I1, r1, q1⟩ => ?_)
  refine wpAny_Slice (thn (hl pins s1 σ H1 _ I1 q1) fun vl s2 ⟨l, H2, I2, pl, q2⟩ => thn (hu pins s2 σ H2 _ I2 q2) fun vu s3 ⟨u, H3, I3, pu, q3⟩ => ?_)
  rw [evalPart_none]
  refine wpAny_pure ?_
  have I4 : Inv X pins σ H3 { s3 with heap := s3.heap.push { cls := .type "slice", data := .fields #[vl, vu, .none] } } := I3.kept (t' := s3.toks) fun b ob q => Heap.get?_push_of_some _ q
  obtain ⟨T, id, hT, ht, hg⟩ := hr pins { s3 with heap := s3.heap.push { cls := .type "slice", data := .fields #[vl, vu, .none] } } σ H3 x v vl vu l u s3.heap.objs.size Q I4 r1 (Heap.IsSliceOf.new ..) pl pu q3
  show wpAny (model X.prog X.w) X.A (subscriptTail e (.Slice lo hi none p2) v (.ref s3.heap.objs.size)) (EP X pins σ Q) X.xe { s3 with heap := s3.heap.push { cls := .type "slice", data := .fields #[vl, vu, .none] } }
  exact tail_any (ops := [.ref s3.heap.objs.size, v]) ht hT hg (by with_unfolding_all rfl)
/-- the items of xs[lo:hi] -/
def cutV (xs : List V) (lo hi : Option Int) : List V := (xs.drop (HT.sIx xs.length 0 lo)).take (HT.sIx xs.length xs.length hi - HT.sIx xs.length 0 lo)
theorem cutV_length (xs : List V) (lo hi : Option Int) : (cutV xs lo hi).length ≤ xs.length := by
  unfold cutV
  rw [List.length_take, List.length_drop]
  omega
/-! ### t < u, t + u -/
end
end L2
namespace L2
open PySem PySem.Spec PyProof.Rows
/-! ### places -/
/-- the place that an index of any sign means -/
def ixN (n : Nat) (i : Int) : Option Nat := if 0 ≤ i then (if i < n then some i.toNat else none) else if -(n : Int) ≤ i then some (i + n).toNat else none
def atI {α : Type} (xs : List α) (i : Int) : Option α := (ixN xs.length i).bind fun j => xs[j]?
theorem ixN_seq {n : Nat} {i : Int} {j : Nat} (h : ixN n i = some j) : seqIndex? i n = some j ∧ j < n ∧ -(n : Int) ≤ i ∧ i < n := by
  unfold ixN at h
  by_cases h0 : 0 ≤ i
  · rw [if_pos h0] at h
    by_cases h1 : i < n
    · rw [if_pos h1] at h
      have e : i.toNat = j := Option.some.inj h
      exact ⟨by rw [seqIndex_of h0 h1, e], by omega, by omega, h1⟩
    · rw [if_neg h1] at h; cases h
  · rw [if_neg h0] at h
    by_cases h1 : -(n : Int) ≤ i
    · rw [if_pos h1] at h
      have e : (i + n).toNat = j := Option.some.inj h
      exact ⟨by rw [seqIndex_neg (by omega) h1, e], by omega, h1, by omega⟩
    · rw [if_neg h1] at h; cases h
theorem atI_get {α : Type} {xs : List α} {i : Int} {v : α} (h : atI xs i = some v) : ∃ j, seqIndex? i xs.length = some j ∧ xs[j]? = some v ∧ j < xs.length ∧ -(xs.length : Int) ≤ i ∧ i < xs.length := by
  unfold atI at h
  cases e : ixN xs.length i with
  | none => rw [e] at h; cases h
  | some j =>
    rw [e] at h
    obtain ⟨h1, h2, h3, h4⟩ := ixN_seq e
    exact ⟨j, h1, h, h2, h3, h4⟩
theorem atI_nat {α : Type} {xs : List α} {j : Nat} {v : α} (h : xs[j]? = some v) : atI xs (j : Int) = some v := by
  have hj : j < xs.length := (List.getElem?_eq_some_iff.mp h).1
  have e : ixN xs.length (j : Int) = some j := by
    unfold ixN
    rw [if_pos (by omega), if_pos (by omega)]; simp
  unfold atI; rw [e]; exact h
/-! ### what may be subscripted -/
/-- what stands as an index of a plain subscript -/
def PlainIx (b : Expr) : Prop := ∀ o i, subscripted b false o i = operate [o, i] (getItem o i)
/-- a subscript by values -/
def IxR (X : Cx) (r : R2) : Prop :=
  ∀ (value slice : Expr) (pins : List (Addr × Obj)) (s : Shared) (σ : St) (H : Hp) (x y : V) (v u : Value) (Q : VK), Inv X pins σ H s → RelV x v → RelV y u → r x y H Q →
    subscripted slice false v u = operate [v, u] (getItem v u) → wpAny (model X.prog X.w) X.A (subscriptTail value slice v u) (EP X pins σ Q) X.xe s
/-- a call of a builtin's method by values: the receiver, the arguments -/
def MtR (X : Cx) (id : String) (r : V → List V → Hp → VK → Prop) : Prop :=
  ∀ (pins : List (Addr × Obj)) (s : Shared) (σ : St) (H : Hp) (x : V) (xs : List V) (v : Value) (us : List Value) (Q : VK), Inv X pins σ H s → RelV x v → Vals xs us → r x xs H Q →
    wpAny (model X.prog X.w) X.A (call (.builtin id) (v :: us)) (EP X pins σ Q) X.xe s
section
variable {X : Cx} {a b : Expr} {ta tb : TE} {pos : Pos}
/-- a[b] -/
theorem pe_ix {r : R2} (hr : IxR X r) (ha : PE X a ta) (hb : PE X b tb) (hs : PlainIx b) : PE X (.Subscript a b pos) (tOp r ta tb) := by
  intro pins s σ H Q I h
  exact Subscript_ (binT ha hb I h fun v u s2 x y H2 I2 rx ry q => hr a b pins s2 σ H2 x y v u Q I2 rx ry q (hs _ _))
def rIxL (K : PySem.W.Frag) : R2 := fun x y H Q => ∃ p xs i v, x = .ref p ∧ y = .int i ∧ SqL K H p xs ∧ atI xs i = some v ∧ Q v H
def rIxT (K : PySem.W.Frag) : R2 := fun x y H Q => ∃ p xs i v, x = .ref p ∧ y = .int i ∧ SqT K H p xs ∧ atI xs i = some v ∧ Q v H
theorem ix_list : IxR X (rIxL X.K) := by
  intro value slice pins s σ H x y v u Q I rx ry h hs
  obtain ⟨p, xs, i, z, rfl, rfl, hq, he, q⟩ := h
  cases rx
  obtain ⟨t, rfl⟩ := ry
  obtain ⟨its, r, pl, hz⟩ := I.list hq
  obtain ⟨j, h1, h2, h3, h4, h5⟩ := atI_get he
  obtain ⟨w, ew, rw'⟩ := r.get h2
  have hl := r.length
  have hn := line63
  have fin : EP X pins σ Q w s := ⟨z, H, I, rw', q⟩
  by_cases h0 : 0 ≤ i
  · have hj : i.toNat = j := by
      rw [seqIndex_of h0 h5] at h1
      exact Option.some.inj h1
    exact item_listR pl.isList h0 (by omega) (by rw [hj]; simpa using ew) fin hs
  · have hj : (i + (its.toArray.size : Int)).toNat = j := by
      rw [seqIndex_neg (by omega) h4] at h1
      rw [List.size_toArray, ← hl]
      exact Option.some.inj h1
    exact subscriptTail_builtinR (x := w) pl.isList.typeIs slot_list_getitem.lookup
      (wpAny_getItem_list_neg (Q := fun r s' => r = w ∧ EP X pins σ Q r s') pl.isList (by omega) (by rw [List.size_toArray] <;> omega) (by omega) (by rw [hj]; simpa using ew) ⟨rfl, fin⟩) hs
theorem ix_tup : IxR X (rIxT X.K) := by
  intro value slice pins s σ H x y v u Q I rx ry h hs
  obtain ⟨p, xs, i, z, rfl, rfl, hq, he, q⟩ := h
  cases rx
  obtain ⟨t, rfl⟩ := ry
  obtain ⟨its, r, pl, hz⟩ := I.tuple hq
  obtain ⟨j, h1, h2, h3, h4, h5⟩ := atI_get he
  obtain ⟨w, ew, rw'⟩ := r.get h2
  have hl := r.length
  have hn := line63
  have fin : EP X pins σ Q w s := ⟨z, H, I, rw', q⟩
  exact subscriptTail_builtinR (x := w) pl.typeIs slot_tuple_getitem.lookup
    (getItem_tuple (j := j) (Q := fun r s' => r = w ∧ EP X pins σ Q r s') pl (by omega) (by omega) (by rw [List.size_toArray, ← hl]; exact h1) (by simpa using ew) ⟨rfl, fin⟩) hs
/-! ### xs[i] = v, any sign -/
/-- the list's object behind a store -/
theorem mapSeq_set (its : List Value) (n j : Nat) (u : Value) : Obj.mapSeq (·.setIfInBounds j u) { cls := .type "list", data := .seq its.toArray n } = { cls := .type "list", data := .seq (its.set j u).toArray n } := by
  simp [Obj.mapSeq]
theorem Inv.lst {pins : List (Addr × Obj)} {σ : St} {H : Hp} {s : Shared} {p : Addr} {xs : List V} (I : Inv X pins σ H s) (h : H p = some (.lst xs)) :
    ∃ (its : List Value) (n : Nat), Vals xs its ∧ s.heap.get? p = some { cls := .type "list", data := .seq its.toArray n } ∧ xs.length ≤ sizeLine := by
  obtain ⟨z, its, n, r, e⟩ := I.hok p _ h
  exact ⟨its, n, r, e, z⟩
/-- the list at p is written by an update of its object -/
theorem Inv.lstUpd {pins : List (Addr × Obj)} {σ : St} {H : Hp} {s : Shared} {p : Addr} {xs ys : List V} {its its' : List Value} {n n' : Nat} {f : Obj → Obj} (I : Inv X pins σ H s) (h : H p = some (.lst xs))
    (ho : s.heap.get? p = some { cls := .type "list", data := .seq its.toArray n }) (hf : f { cls := .type "list", data := .seq its.toArray n } = { cls := .type "list", data := .seq its'.toArray n' }) (r : Vals ys its') (hz : ys.length ≤ sizeLine) (t : Nat) :
    Inv X pins σ (upd H p (.lst ys)) { s with heap := s.heap.update p f, toks := t } := by
  have e : (s.heap.update p f).get? p = some { cls := .type "list", data := .seq its'.toArray n' } := by
    rw [Heap.get?_update_self f ho (by rw [hf] <;> rfl), hf]
  refine I.write (x := p) (e := p) (by rw [h]; trivial) (.inl rfl) (fun b u hb q => (Heap.get?_update_other _ _ (Ne.symm hb)).trans q) ⟨_, e⟩ ?_
  exact ⟨hz, its', n', r, e⟩
def rSetL : V → V → V → Hp → (Hp → Prop) → Prop := fun o i v H Q => ∃ p xs k j, o = .ref p ∧ i = .int k ∧ H p = some (.lst xs) ∧ ixN xs.length k = some j ∧ Q (upd H p (.lst (xs.set j v)))
theorem set_list : PSet X rSetL := by
  intro pins s σ H o i v ov iv u Q I ro ri rv h
  obtain ⟨p, xs, k, j, rfl, rfl, hp, hj, q⟩ := h
  cases ro
  obtain ⟨t, rfl⟩ := ri
  obtain ⟨its, n, r, ho, hz⟩ := I.lst hp
  obtain ⟨h1, h2, h3, h4⟩ := ixN_seq hj
  have hl := r.length
  have hn := line63
  have I' : Inv X pins σ (upd H p (.lst (xs.set j v))) { s with heap := s.heap.update p (Obj.mapSeq (·.setIfInBounds j u)) } :=
    I.lstUpd hp ho (mapSeq_set its n j u) (r.set rv j) (by rw [List.length_set]; exact hz) s.toks
  by_cases h0 : 0 ≤ k
  · have hk : k.toNat = j := by
      rw [seqIndex_of h0 h4] at h1
      exact Option.some.inj h1
    exact PySem.W.ki_setAt ho h0 (by omega) (by rw [List.size_toArray, ← hl]; exact h4) (by rw [hk]; exact ⟨_, I', q⟩)
  · have hk : (k + (its.toArray.size : Int)).toNat = j := by
      rw [seqIndex_neg (by omega) h3] at h1
      rw [List.size_toArray, ← hl]
      exact Option.some.inj h1
    exact PySem.W.ki_setBack ho (by omega) (by rw [List.size_toArray, ← hl]; exact h3) (by omega) (by rw [hk]; exact ⟨_, I', q⟩)
/-! ### slices -/
theorem slice_bounds (lo hi : Option Int) (n : Nat) : (sliceBounds lo hi none n).1 = ((HT.sIx n 0 lo : Nat) : Int) ∧ (sliceBounds lo hi none n).2.1 = ((HT.sIx n n hi : Nat) : Int) ∧ (sliceBounds lo hi none n).2.2 = 1 := by
  refine ⟨?_, ?_, rfl⟩
  · cases lo with
    | none => simp [sliceBounds, HT.sIx]
    | some i =>
      simp only [sliceBounds, HT.sIx, Option.getD_none, show (1 : Int) > 0 by decide, if_true]
      by_cases h : i < 0
      · simp only [h, if_true] <;> omega
      · simp only [h, if_false] <;> omega
  · cases hi with
    | none => simp [sliceBounds, HT.sIx]
    | some i =>
      simp only [sliceBounds, HT.sIx, Option.getD_none, show (1 : Int) > 0 by decide, if_true]
      by_cases h : i < 0
      · simp only [h, if_true] <;> omega
      · simp only [h, if_false] <;> omega
theorem slicePick_cut (its : List Value) (lo hi : Option Int) : slicePick its.toArray lo hi none = ((its.drop (HT.sIx its.length 0 lo)).take (HT.sIx its.length its.length hi - HT.sIx its.length 0 lo)).toArray := by
  obtain ⟨h1, h2, h3⟩ := slice_bounds lo hi its.toArray.size
  unfold slicePick
  rw [h1, h2, h3]
  simp only [sliceRange_one, pick_run, List.size_toArray] <;> rfl
/-- xs[lo:hi] of a list: a new list -/
def rSlL (K : PySem.W.Frag) : V → Option Int → Option Int → Hp → VK → Prop := fun x lo hi H Q => ∃ a xs, x = .ref a ∧ SqL K H a xs ∧ ∀ p, H p = none → Q (.ref p) (upd H p (.lst (cutV xs lo hi)))
theorem sl_list : SlR X (rSlL X.K) := by
  intro pins s σ H x v vl vu lo hi sl Q I rx hs pl pu h
  obtain ⟨a, xs, rfl, hx, q⟩ := h
  cases rx
  obtain ⟨its, r, ht, hz⟩ := I.list hx
  have hlen := r.length
  refine ⟨"list", _, slot_list_getitem.lookup, ht.isList.typeIs, ?_⟩
  refine wpAny_getItem_list_slice ht.isList hs pl pu .none (by simp) ?_ (by rw [List.size_toArray] <;> omega)
  rw [slicePick_cut, ← hlen]
  refine ⟨.ref s.heap.objs.size, _, I.laid (t' := s.toks) (o := .lst (cutV xs lo hi)) (fun b ob q => Heap.get?_push_of_some _ q) (Nat.le_refl _) ?_, rfl, q _ (I.hok.fresh (Nat.le_refl _))⟩
  exact ⟨Nat.le_trans (cutV_length xs lo hi) hz, _, 0, (r.drop (HT.sIx xs.length 0 lo)).take (HT.sIx xs.length xs.length hi - HT.sIx xs.length 0 lo), Heap.get?_push_size _ rfl⟩
/-! ### in, not in: flat items -/
/-! ### len, list(x), tuple(x) of any list or tuple that is read -/
theorem call_len_seq : CallR X (.builtin "len") (fun xs H Q => ∃ p ys, xs = [.ref p] ∧ (SqL X.K H p ys ∨ SqT X.K H p ys) ∧ Q (.int ys.length) H) := by
  intro pins s σ H xs us Q I r h
  obtain ⟨p, ys, rfl, hq, q⟩ := h
  obtain ⟨u, rfl, rx⟩ := vals1 r
  cases rx
  have hn := line63
  rcases hq with hq | hq
  · obtain ⟨its, r', pl, hz⟩ := I.list hq
    have hlen := r'.length
    exact Calls.call_len_list pl.isList (by simp only [List.size_toArray] <;> omega) ⟨.int ys.length, H, I.tok _, ⟨s.toks + 1, by rw [List.size_toArray, hlen]⟩, q⟩
  · obtain ⟨its, r', pl, hz⟩ := I.tuple hq
    have hlen := r'.length
    exact len_tuple pl (by simp only [List.size_toArray] <;> omega) ⟨.int ys.length, H, I.tok _, ⟨s.toks + 1, by rw [List.size_toArray, hlen]⟩, q⟩
theorem call_list_of : CallR X (.type "list") (fun xs H Q => ∃ p ys, xs = [.ref p] ∧ (SqL X.K H p ys ∨ SqT X.K H p ys) ∧ ∀ l, H l = none → Q (.ref l) (upd H l (.lst ys))) := by
  intro pins s σ H xs us Q I r h
  obtain ⟨p, ys, rfl, hq, q⟩ := h
  obtain ⟨u, rfl, rx⟩ := vals1 r
  cases rx
  have fin : ∀ (its : List Value), Vals ys its → ys.length ≤ sizeLine → ∀ (h' : Heap) (c' : Nat), (∀ b o', s.heap.get? b = some o' → h'.get? b = some o') →
      h'.get? s.heap.objs.size = some { cls := .type "list", dict := none, data := .seq its.toArray c', slots := #[] } → EP X pins σ Q (.ref s.heap.objs.size) { s with heap := h' } := fun its r' hz h' c' kp e =>
    ⟨.ref s.heap.objs.size, _, I.laid (t' := s.toks) kp (Nat.le_refl _) (show ObjOk X.prog X.w _ h' _ (.lst ys) from ⟨hz, its, c', r', e⟩), rfl, q _ (I.hok.fresh (Nat.le_refl _))⟩
  rcases hq with hq | hq
  · obtain ⟨its, r', pl, hz⟩ := I.list hq
    have hlen := r'.length
    obtain ⟨o, ho, hc, n, hd⟩ := pl.isList
    exact call_list_seq p (.inl rfl) ho hc hd (fun h' c' kp e => fin its r' hz h' c' kp e) (by simp only [List.size_toArray] <;> omega)
  · obtain ⟨its, r', pl, hz⟩ := I.tuple hq
    have hlen := r'.length
    obtain ⟨o, ho, hc, n, hd⟩ := pl
    exact call_list_seq p (.inr rfl) ho hc hd (fun h' c' kp e => fin its r' hz h' c' kp e) (by simp only [List.size_toArray] <;> omega)
/-! ### the call of a builtin's method: o.m(..) -/
/-- the value is of that builtin type -/
def tyV (K : PySem.W.Frag) (T : String) (x : V) (H : Hp) : Prop := match x with
  | .str _ => T = "str"
  | .int _ => T = "int"
  | .ref p => (T = "list" ∧ ∃ xs, SqL K H p xs) ∨ (T = "tuple" ∧ ∃ o, K.lookup p = some o ∧ o.cls = .type "tuple" ∧ o.dict = none) ∨
      (T = "dict" ∧ ((∃ kvs, H p = some (.dK kvs)) ∨ ∃ kvs, H p = some (.dT kvs))) ∨ (T = "set" ∧ ∃ S n, H p = some (.set S n))
  | _ => False
theorem tyV_is {pins : List (Addr × Obj)} {σ : St} {H : Hp} {s : Shared} {T : String} {x : V} {v : Value} (I : Inv X pins σ H s) (r : RelV x v) (ty : tyV X.K T x H) :
    s.TypeIs v T ∧ ∀ a, v = .ref a → ∃ ob, s.heap.get? a = some ob ∧ ob.dict = none := by
  cases x with
  | str z =>
    obtain ⟨t, rfl⟩ := r
    cases (show T = "str" from ty)
    exact ⟨typeIs_str s z t, fun _ e => nomatch e⟩
  | int i =>
    obtain ⟨t, rfl⟩ := r
    cases (show T = "int" from ty)
    exact ⟨typeIs_int s i t, fun _ e => nomatch e⟩
  | ref p =>
    cases r
    rcases ty with ⟨rfl, xs, hq⟩ | ⟨rfl, o, hk, hc, hd⟩ | ⟨rfl, hk⟩ | ⟨rfl, S, n, hk⟩
    · obtain ⟨its, _, pl, _⟩ := I.list hq
      refine ⟨pl.isList.typeIs, fun a e => ?_⟩
      cases e
      obtain ⟨o, n, e, c, hd, _⟩ := pl
      exact ⟨o, e, hd⟩
    · refine ⟨⟨o, I.kIn p o hk, hc⟩, fun a e => ?_⟩
      cases e
      exact ⟨o, I.kIn _ o hk, hd⟩
    · have z : ∃ o, s.heap.get? p = some o ∧ o.ExactDict := by
        rcases hk with ⟨kvs, hk⟩ | ⟨kvs, hk⟩
        · obtain ⟨_, _, _, _, o, _, _, e, ex, _⟩ := I.hok p _ hk
          exact ⟨o, e, ex⟩
        · obtain ⟨_, _, _, _, o, _, _, e, ex, _⟩ := I.hok p _ hk
          exact ⟨o, e, ex⟩
      obtain ⟨o, e, ex⟩ := z
      refine ⟨⟨o, e, ex.1⟩, fun a e2 => ?_⟩
      cases e2
      exact ⟨o, e, ex.2.1⟩
    · obtain ⟨o, _, _, _, e, ex, _⟩ := I.hok p _ hk
      refine ⟨⟨o, e, ex.1⟩, fun a e2 => ?_⟩
      cases e2
      exact ⟨o, e, ex.2.1⟩
  | _ => exact False.elim ty
def tBM0 (K : PySem.W.Frag) (T : String) (r : V → List V → Hp → VK → Prop) (to : TE) : TE := fun σ H Q => to σ H fun x H1 => tyV K T x H1 ∧ r x [] H1 Q
def tBM (K : PySem.W.Frag) (T : String) (r : V → List V → Hp → VK → Prop) (to : TE) (t : TA) : TE := fun σ H Q => to σ H fun x H1 => tyV K T x H1 ∧ t σ H1 fun xs H2 => r x xs H2 Q
variable {o e : Expr} {es : List Expr} {to : TE} {t : TA} {name : Str} {apos cpos : Pos} {T id : String} {r : V → List V → Hp → VK → Prop}
theorem pe_bm0 (pa : PlainAttrs T) (slot : Slot T name id) (hty : typeOf (.builtin id) = pure (.type "method_descriptor")) (hm : MtR X id r) (ho : PE X o to)
    (hbase : attributeBase o name X.env (eval o X.env) = eval o X.env := by rfl) (hline : (apos.endLine == cpos.line) = true := by rfl) : PE X (.Call (.Attribute o name apos) [] [] cpos) (tBM0 X.K T r to) := by
  intro pins s σ H Q I h
  refine wpAny_Call_method0_late hbase hline (thn (ho pins s σ H _ I h) fun v s1 ⟨x, H1, I1, r1, ty, q1⟩ => ?_)
  obtain ⟨h1, h2⟩ := tyV_is I1 r1 ty
  exact ⟨T, id, pa, slot, hty, h1, h2, Calls.callWith_builtin rfl (PySem.evalArgs_none (hm pins s1 σ H1 x [] v [] Q I1 r1 .nil q1))⟩
theorem pe_bm (pa : PlainAttrs T) (slot : Slot T name id) (hty : typeOf (.builtin id) = pure (.type "method_descriptor")) (hm : MtR X id r) (ho : PE X o to) (ha : PA X (e :: es) t)
    (hbase : attributeBase o name X.env (eval o X.env) = eval o X.env := by rfl)
    (hfew : ((backTo cpos (starEach (e :: es) X.env)).all (fun x => !x.1) && (backToKw cpos (keywordEach [] X.env)).all (fun x => x.1.isSome)
      && decide ((e :: es).length + ([] : List Keyword).length + (if ([] : List Keyword).isEmpty then 0 else 1) < 30)) = true := by rfl)
    (hline : (apos.endLine == cpos.line) = true := by rfl) (hs : starEach (e :: es) X.env = (false, eval e X.env) :: starEach es X.env := by rfl) (hplain : (backTo cpos (starEach es X.env)).any (·.1) = false := by rfl) :
    PE X (.Call (.Attribute o name apos) (e :: es) [] cpos) (tBM X.K T r to t) := by
  intro pins s σ H Q I h
  refine wpAny_Call_method_late hbase hfew hline rfl (thn (ho pins s σ H _ I h) fun v s1 ⟨x, H1, I1, r1, ty, q1⟩ => ?_)
  obtain ⟨h1, h2⟩ := tyV_is I1 r1 ty
  refine ⟨T, id, pa, slot, hty, h1, h2, ?_⟩
  have hA := ha cpos pins s1 σ H1 _ I1 q1
  rw [hs] at hA ⊢
  refine Calls.callWith_builtin (by show (false || (backTo cpos (starEach es X.env)).any (·.1)) = false; rw [hplain] <;> rfl) (Calls.evalArgs_plain ?_)
  exact thn hA fun us s2 ⟨vs, H2, I2, r2, q2⟩ => hm pins s2 σ H2 x vs v us Q I2 r1 r2 q2
/- xs.append(e), list.index on a module's tuple .. are MtR facts of 06m -/
end
end L2
namespace L2
open PySem PySem.Spec PyProof.Rows
def MtM (X : Cx) (id : String) (r : V → List V → Hp → VK → Prop) : Prop :=
  ∀ (pins : List (Addr × Obj)) (s : Shared) (σ : St) (H : Hp) (x : V) (xs : List V) (v : Value) (us : List Value) (Q : VK), Inv X pins σ H s → RelV x v → Vals xs us → r x xs H Q →
    wpAny (model X.prog X.w) X.A (call (.builtin id) (v :: us)) (EP X pins σ Q) X.xe s
/-! ### lists of values -/
theorem Vals.one : ∀ {x : V} {us : List Value}, Vals [x] us → ∃ u, us = [u] ∧ RelV x u
  | _, _, .cons r .nil => ⟨_, rfl, r⟩
theorem Vals.zero : ∀ {us : List Value}, Vals [] us → us = []
  | _, .nil => rfl
theorem Vals.dropLast {xs : List V} {us : List Value} (h : Vals xs us) : Vals xs.dropLast us.dropLast := by
  induction h with
  | nil => exact .nil
  | cons r t ih =>
    cases t with
    | nil => exact .nil
    | cons q t' => exact .cons r ih
theorem erase_last {α : Type} (l : List α) : l.eraseIdx (l.length - 1) = l.dropLast := by
  induction l with
  | nil => rfl
  | cons a r ih =>
    cases r with
    | nil => rfl
    | cons b r =>
      have e : (a :: b :: r).length - 1 = ((b :: r).length - 1) + 1 := by
        have h1 : (a :: b :: r).length = r.length + 2 := rfl
        have h2 : (b :: r).length = r.length + 1 := rfl
        omega
      rw [e, List.eraseIdx_cons_succ, ih]
      all_goals rfl
section
variable {X : Cx} {pins : List (Addr × Obj)} {σ : St} {H : Hp} {s : Shared} {l b : Addr} {xs ys zs : List V}
/-! ### the two steps: a tracked list is rewritten, a new list is laid -/
theorem Inv.lset {its its' : List Value} {n : Nat} {f : Array Value → Array Value} {t' : Nat} (I : Inv X pins σ H s) (hH : H l = some (.lst xs))
    (e : s.heap.get? l = some { cls := .type "list", data := .seq its.toArray n }) (hf : f its.toArray = its'.toArray) (hv : Vals ys its') (hz : ys.length ≤ sizeLine) :
    Inv X pins σ (upd H l (.lst ys)) { s with heap := s.heap.update l (Obj.mapSeq f), toks := t' } := by
  have q := PySem.IsL.update e f
  rw [hf] at q
  refine I.write (x := l) (e := l) (by rw [hH]; exact trivial) (.inl rfl) (fun b' u hb hu => (Heap.get?_update_other s.heap (Obj.mapSeq f) (Ne.symm hb)).trans hu) ⟨_, q⟩ ?_
  exact ⟨hz, its', _, hv, q⟩
theorem Inv.lnew {its : List Value} {t' : Nat} (I : Inv X pins σ H s) (hv : Vals ys its) (hz : ys.length ≤ sizeLine) :
    Inv X pins σ (upd H s.heap.objs.size (.lst ys)) { s with heap := s.heap.push { cls := .type "list", data := .seq its.toArray }, toks := t' } :=
  I.laid (fun _ _ q => Heap.get?_push_of_some _ q) (Nat.le_refl _) ⟨hz, its, 0, hv, Heap.get?_push_size _ rfl⟩
theorem Inv.fresh (I : Inv X pins σ H s) : H s.heap.objs.size = none := I.hok.fresh (Nat.le_refl _)
theorem Inv.lstM (I : Inv X pins σ H s) (hH : H l = some (.lst xs)) : xs.length ≤ sizeLine ∧ ∃ (its : List Value) (n : Nat), Vals xs its ∧ xs.length = its.length ∧ s.heap.get? l = some { cls := .type "list", data := .seq its.toArray n } := by
  obtain ⟨z, its, n, r, e⟩ := I.hok l _ hH
  exact ⟨z, its, n, r, r.length, e⟩
theorem notLongL {n : Nat} (h : n ≤ sizeLine) : Builtin.List.listTooLong n = false := by
  unfold Builtin.List.listTooLong
  exact decide_eq_false (by omega)
end
section
variable {X : Cx}
/-! ### methods -/
def rAppend : V → List V → Hp → VK → Prop := fun x vs H Q => ∃ l xs y, x = .ref l ∧ vs = [y] ∧ H l = some (.lst xs) ∧ xs.length < sizeLine ∧ Q .non (upd H l (.lst (xs ++ [y])))
theorem mt_append : MtM X "list.append" rAppend := by
  intro pins s σ H x vs v us Q I rx rv h
  obtain ⟨l, xs, y, rfl, rfl, hH, hz, q⟩ := h
  cases rx
  obtain ⟨u, rfl, ru⟩ := rv.one
  obtain ⟨z, its, n, r, hl, e⟩ := I.lstM hH
  refine call_meets F.slot_list_append ⟨_, e, rfl⟩ F.entry_list_append (F.args_list_append_2 _ _) (PySem.list_append l its.toArray n u (by rw [List.size_toArray]; omega)) ⟨e, ?_⟩
  refine ⟨.non, _, I.lset (its' := its ++ [u]) hH e (by simp) (r.append (.cons ru .nil)) ?_, rfl, q⟩
  rw [List.length_append, List.length_singleton]
  omega
def rExtend : V → List V → Hp → VK → Prop := fun x vs H Q => ∃ l b xs zs, x = .ref l ∧ vs = [.ref b] ∧ H l = some (.lst xs) ∧ H b = some (.lst zs) ∧ xs.length + zs.length ≤ sizeLine ∧ Q .non (upd H l (.lst (xs ++ zs)))
theorem mt_extend : MtM X "list.extend" rExtend := by
  intro pins s σ H x vs v us Q I rx rv h
  obtain ⟨l, b, xs, zs, rfl, rfl, hH, hB, hz, q⟩ := h
  cases rx
  obtain ⟨u, rfl, ru⟩ := rv.one
  cases ru
  obtain ⟨z, its, n, r, hl, e⟩ := I.lstM hH
  obtain ⟨z2, its2, n2, r2, hl2, e2⟩ := I.lstM hB
  have hsz : its.toArray.size + its2.toArray.size ≤ sizeLine := by rw [List.size_toArray, List.size_toArray]; omega
  have hlong : ¬ (!its.toArray.isEmpty && Builtin.List.listTooLong (its.toArray.size + its2.toArray.size)) = true := by
    rw [notLongL hsz, Bool.and_false]
    exact Bool.false_ne_true
  refine call_meets F.slot_list_extend ⟨_, e, rfl⟩ F.entry_list_extend (F.args_list_extend_2 _ _)
    (AutoSeq1.list_extend_list_list_0 l its.toArray n b its2.toArray n2 hlong (by rw [List.size_toArray]; omega) (by omega)) ⟨e, e2, ?_⟩
  refine ⟨.non, _, I.lset (its' := its ++ its2) hH e (by simp) (r.append r2) ?_, rfl, q⟩
  rw [List.length_append]
  omega
def rPop : V → List V → Hp → VK → Prop := fun x vs H Q => ∃ l xs y, x = .ref l ∧ vs = [] ∧ H l = some (.lst xs) ∧ xs[xs.length - 1]? = some y ∧ Q y (upd H l (.lst xs.dropLast))
theorem mt_pop : MtM X "list.pop" rPop := by
  intro pins s σ H x vs v us Q I rx rv h
  obtain ⟨l, xs, y, rfl, rfl, hH, hy, q⟩ := h
  cases rx
  have hus := rv.zero
  subst hus
  obtain ⟨z, its, n, r, hl, e⟩ := I.lstM hH
  obtain ⟨u, hu, ru⟩ := r.get hy
  have hy' : its.toArray[its.toArray.size - 1]? = some u := by
    show its.toArray[its.length - 1]? = some u
    rw [← Array.getElem?_toList, ← hl]
    exact hu
  refine call_meets F.slot_list_pop ⟨_, e, rfl⟩ F.entry_list_pop (F.args_list_pop_1 _) (MeetsSeq.list_pop_last l its.toArray n u hy' (by rw [List.size_toArray]; omega)) ⟨e, ?_⟩
  refine ⟨y, _, I.lset (its' := its.dropLast) hH e ?_ r.dropLast ?_, ru, q⟩
  · show its.toArray.eraseIdxIfInBounds (its.toArray.size - 1) = its.dropLast.toArray
    rw [List.size_toArray, List.eraseIdxIfInBounds_toArray, erase_last]
  · rw [List.length_dropLast]
    omega
/-! ### list + list, list += list, list * int -/
def rCat : R2 := fun x y H Q => ∃ l b xs zs, x = .ref l ∧ y = .ref b ∧ H l = some (.lst xs) ∧ H b = some (.lst zs) ∧ xs.length + zs.length ≤ sizeLine ∧ ∀ p, H p = none → Q (.ref p) (upd H p (.lst (xs ++ zs)))
theorem op_cat : OpR X (binaryOp .Add) rCat := by
  intro pins s σ H x y v u Q I rx ry h
  obtain ⟨l, b, xs, zs, rfl, rfl, hH, hB, hz, q⟩ := h
  cases rx
  cases ry
  obtain ⟨z, its, n, r, hl, e⟩ := I.lstM hH
  obtain ⟨z2, its2, n2, r2, hl2, e2⟩ := I.lstM hB
  refine PySem.P.add_list e e2 ?_ (by rw [List.size_toArray, List.size_toArray]; omega)
  have ea : its.toArray ++ its2.toArray = (its ++ its2).toArray := by simp
  rw [ea]
  exact ⟨.ref _, _, I.lnew (t' := s.toks) (r.append r2) (by rw [List.length_append]; omega), rfl, q _ I.fresh⟩
/-! ### del xs[i] -/
end
/-! ### xs[a:b] = ys -/
section
variable {prog : Program} {w : World} {A : Around} {E : Value → Shared → Prop} {s : Shared}
set_option maxRecDepth 100000 in
end
end L2
namespace L2
open PySem PySem.Spec PyProof.Rows
theorem Vals.ints : ∀ {ns : List Int} {us : List Value}, Vals (ns.map V.int) us → IntsAre us ns
  | [], us, h => by
    rw [List.map_nil] at h
    cases h
    exact IntsAre.nil
  | n :: ns, us, h => by
    rw [List.map_cons] at h
    cases h with
    | cons r t =>
      obtain ⟨k, rfl⟩ := r
      exact IntsAre.cons n k (Vals.ints t)
theorem vals_of_ints : ∀ {us : List Value} {ns : List Int}, IntsAre us ns → Vals (ns.map V.int) us
  | _, _, .nil => by rw [List.map_nil]; exact Paired.nil
  | _, _, .cons n t h => by rw [List.map_cons]; exact Paired.cons (show RelV (V.int n) (Value.int n t) from ⟨t, rfl⟩) (vals_of_ints h)
theorem Vals.bls : ∀ {bs : List Bool} {us : List Value}, Vals (bs.map V.bl) us → us = bs.map Value.bool
  | [], us, h => by
    rw [List.map_nil] at h
    cases h
    rfl
  | b :: bs, us, h => by
    rw [List.map_cons] at h
    cases h with
    | cons r t =>
      cases r
      rw [Vals.bls t, List.map_cons]
theorem Vals.ref1 {a : Addr} {us : List Value} (r : Vals [V.ref a] us) : us = [Value.ref a] := by
  cases r with
  | cons r t =>
    cases t
    cases r
    rfl
/-! ### the library's walks over a list of ints, kept objects alone -/
section
variable {prog : Program} {w : World} {A : Around} {E : Value → Shared → Prop} {s : Shared} {l : Addr} {its : List Value} {ns : List Int} {Q : Value → Shared → Prop}
theorem sum_raw (hh : A.handled = none) (hl : s.heap.IsList l its.toArray) (hi : IntsAre its ns)
    (h : ∀ h' tk t', (∀ b o, s.heap.get? b = some o → h'.get? b = some o) → Q (.int ns.sum t') { s with heap := h', toks := tk }) : wpAny (model prog w) A (call (.builtin "sum") [.ref l]) Q E s := by
  obtain ⟨xs, e⟩ := hi.allInts.items
  have hn : numsOf (intItems xs).toList = ns := by rw [← e]; exact hi.numsOf
  rw [nums_intItems] at hn
  rw [e] at hl
  refine PySem.sum_intListG hh hl fun h' tk t' hk => ?_
  have := h h' tk t' hk
  rw [preSum_eq, List.take_of_length_le (by simp), hn]; exact this
end
/-! ### the calls, by values (CallR of 03t; MtR of 06l) -/
section
variable {X : Cx}
/-- sum(xs) of a list of ints -/
def rSum (K : PySem.W.Frag) : List V → Hp → VK → Prop := fun vs H Q => ∃ (a : Addr) (ns : List Int), vs = [V.ref a] ∧ SqL K H a (ns.map V.int) ∧ Q (.int ns.sum) H
theorem cr_sum (hc : X.calm = true) : CallR X (.builtin "sum") (rSum X.K) := by
  intro pins s σ H vs us Q I r h
  obtain ⟨a, ns, rfl, hs, q⟩ := h
  obtain ⟨its, rv, hl, _⟩ := I.list hs
  rw [Vals.ref1 r]
  exact sum_raw (I.ok.hd hc) hl.isList rv.ints fun h' tk t' hk => ⟨.int _, H, I.kept hk, ⟨_, rfl⟩, q⟩
/-! sorted, sort (fewer than 64 items: the library's own bound) -/
theorem small64 {n : Nat} (h : n < 64) : n ≤ sizeLine := by rw [sizeLine_eq]; omega
end
/-! ### list.index, flat items -/
/-! ### type(x) of an own instance; is, is not of a module's class -/
/-! ### any(xs), all(xs) of a list of bools -/
theorem iter_any {prog : Program} {w : World} {A : Around} {E : Value → Shared → Prop} {s : Shared} {l : Addr} {items : Array Value} {Q : Value → Shared → Prop} (hl : s.heap.IsList l items)
    (h : ∀ s₂ : Shared, s₂ = { s with heap := s.heap.push { cls := .type "list_iterator", data := .fields #[.ref l, .int 0 0] } } →
      (s₂.heap.IsListIter s.heap.objs.size l 0 ∧ s₂.heap.IsList l items) → l ≠ s.heap.objs.size → Q (.ref s.heap.objs.size) s₂) : wpAny (model prog w) A (pyIter (.ref l)) Q E s := by
  have hlt : l < s.heap.objs.size := by obtain ⟨_, e, _⟩ := hl; exact Heap.lt_size e
  exact wpAny_pyIter_list hl (h _ rfl ⟨⟨_, Heap.get?_push_size _ rfl, rfl, rfl⟩, hl.push _⟩ (Nat.ne_of_lt hlt))
theorem truth_bools {prog : Program} {w : World} {A : Around} {bs : List Bool} {its : List Value} (e : its = bs.map Value.bool) :
    TruthOf prog w A (fun i v => its.toArray[i]? = some v) (fun i => bs.getD i false) := fun i v s Q E hv hq => by
  have hv' : its[i]? = some v := by simpa using hv
  rw [e, List.getElem?_map] at hv'
  obtain ⟨b, hb, rfl⟩ := Option.map_eq_some_iff.mp hv'
  have hg : bs.getD i false = b := by rw [List.getD_eq_getElem?_getD, hb] <;> rfl
  have hq' : Q (bs.getD i false) s := hq
  rw [hg] at hq'
  exact wpAny_truthy_bool hq'
theorem any_range : ∀ bs : List Bool, (List.range bs.length).any (fun i => bs.getD i false) = bs.any id
  | [] => rfl
  | b :: bs => by
    rw [List.length_cons, List.range_succ_eq_map, List.any_cons, List.any_map, List.any_cons, ← any_range bs]
    all_goals rfl
section
variable {X : Cx}
def rAny (K : PySem.W.Frag) : List V → Hp → VK → Prop := fun vs H Q => ∃ (a : Addr) (bs : List Bool), vs = [V.ref a] ∧ SqL K H a (bs.map V.bl) ∧ Q (.bl (bs.any id)) H
theorem cr_any (hc : X.calm = true) : CallR X (.builtin "any") (rAny X.K) := by
  intro pins s σ H vs us Q I r h
  obtain ⟨a, bs, rfl, hs, q⟩ := h
  obtain ⟨its, rv, hl, _⟩ := I.list hs
  rw [Vals.ref1 r]
  have hb := rv.bls
  refine call_any_walk (iter_any hl.isList fun s₂ e2 st hne => ?_)
  subst e2
  refine ⟨_, _, _, _, _, _, _, rfl, Walks.list (A := X.A.in1) (I.ok.hd hc) _ a hne its.toArray, st, truth_bools hb, fun h' tk hk => ?_⟩
  refine ⟨.bl _, H, I.kept fun b o eo => hk b o (fun hmem => ?_) (Heap.get?_push_of_some _ eo), ?_, q⟩
  · rcases List.mem_cons.mp hmem with e1 | hmem
    · exact absurd (e1 ▸ Heap.lt_size eo) (Nat.lt_irrefl _)
    · cases hmem
  · show Value.bool _ = Value.bool _
    rw [← any_range, hb, List.size_toArray, List.length_map]
end
/-! ### == and != of data at any depth: none, bools, ints, texts, lists, tuples -/
end L2
namespace L2
open PySem PySem.Spec PyProof.Rows
abbrev CellAt (h : Heap) (c : Addr) (v : Option Value) : Prop := h.IsCell c v
def relS (scope sc : Scope) : Scope :=
  { scope with names := scope.names.map fun (n, k) => if (k == .free && sc.kind == .function && sc.names.lookup n == some .cell) then (n, .cell) else (n, k) }
def cloFrom (cells : List (Str × Addr)) : List (Str × NameKind) → List (Str × Addr) → List (Str × Addr)
  | [], acc => acc
  | (n, k) :: r, acc => if k == .free then cloFrom cells r ((n, (cells.lookup n).getD 0) :: acc) else cloFrom cells r acc
theorem closure_loop (env : Env) (f : Str × NameKind → List (Str × Addr) → Sem (ForInStep (List (Str × Addr))))
    (hf : ∀ n k c, f (n, k) c = if k == .free then (do let a ← cellOf env n; pure (.yield ((n, a) :: c))) else pure (.yield c)) :
    ∀ (names : List (Str × NameKind)) (acc : List (Str × Addr)), (∀ y ∈ names, y.2 = .free → ∃ c, env.cells.lookup y.1 = some c) → forIn names acc f = pure (cloFrom env.cells names acc)
  | [], acc, _ => by rw [List.forIn_nil]; rfl
  | (n, k) :: r, acc, h => by
    rw [List.forIn_cons, hf]
    have ih := fun acc => closure_loop env f hf r acc fun y hy => h y (List.mem_cons_of_mem _ hy)
    unfold cloFrom
    by_cases hk : (k == NameKind.free) = true
    · rw [if_pos hk, if_pos hk]
      obtain ⟨c, hc⟩ := h (n, k) List.mem_cons_self (by simpa using hk)
      have e : cellOf env n = pure c := by unfold cellOf; rw [hc]
      rw [e]
      have e2 : (env.cells.lookup n).getD 0 = c := by rw [hc]; rfl
      rw [e2]
      exact ih _
    · rw [if_neg hk, if_neg hk]
      exact ih _
theorem closure_ok {scope : Scope} {env : Env} (h : ∀ y ∈ scope.names, y.2 = .free → ∃ c, env.cells.lookup y.1 = some c) : closureFor scope env = pure (cloFrom env.cells scope.names []) := by
  simp only [closureFor]
  rw [closure_loop env _ (fun n k c => rfl) scope.names [] h]
  rfl
theorem mem_lookup {α : Type} : ∀ {l : List (Str × α)} {n : Str} {c : α}, (n, c) ∈ l → ∃ c', l.lookup n = some c'
  | (k, v) :: r, n, c, h => by
    rw [List.lookup_cons]
    cases hb : n == k with
    | true => exact ⟨_, rfl⟩
    | false =>
      rcases List.mem_cons.mp h with e | h
      · cases e; simp at hb
      · exact mem_lookup h
theorem cloFrom_mem {cells : List (Str × Addr)} : ∀ {names : List (Str × NameKind)} {acc : List (Str × Addr)} {n : Str} {c : Addr}, (n, c) ∈ cloFrom cells names acc → (n, c) ∈ acc ∨ ((n, .free) ∈ names ∧ c = (cells.lookup n).getD 0)
  | [], _, _, _, h => .inl h
  | (m, k) :: r, acc, n, c, h => by
    unfold cloFrom at h
    split at h
    · rename_i hk
      have hk : k = .free := by simpa using hk
      rcases cloFrom_mem h with h | ⟨h1, h2⟩
      · rcases List.mem_cons.mp h with e | h
        · cases e; exact .inr ⟨hk ▸ List.mem_cons_self, rfl⟩
        · exact .inl h
      · exact .inr ⟨List.mem_cons_of_mem _ h1, h2⟩
    · rcases cloFrom_mem h with h | ⟨h1, h2⟩
      · exact .inl h
      · exact .inr ⟨List.mem_cons_of_mem _ h1, h2⟩
theorem cloFrom_acc {cells : List (Str × Addr)} : ∀ {names : List (Str × NameKind)} {acc : List (Str × Addr)} {p : Str × Addr}, p ∈ acc → p ∈ cloFrom cells names acc
  | [], _, _, h => h
  | (m, k) :: r, acc, p, h => by
    unfold cloFrom
    split
    · exact cloFrom_acc (List.mem_cons_of_mem _ h)
    · exact cloFrom_acc h
theorem cloFrom_has {cells : List (Str × Addr)} : ∀ {names : List (Str × NameKind)} {acc : List (Str × Addr)} {n : Str}, (n, .free) ∈ names → (n, (cells.lookup n).getD 0) ∈ cloFrom cells names acc
  | (m, k) :: r, acc, n, h => by
    unfold cloFrom
    rcases List.mem_cons.mp h with e | h
    · cases e
      exact cloFrom_acc List.mem_cons_self
    · split
      · exact cloFrom_has h
      · exact cloFrom_has h
theorem cells_mem : ∀ {names : List (Str × NameKind)} {h : Heap} {acc : List (Str × Addr)} {x : Str} {c : Addr}, (x, c) ∈ cellsFrom h.objs.size names acc →
    (x, c) ∈ acc ∨ ((x, .cell) ∈ names ∧ h.objs.size ≤ c ∧ CellAt (pushCells h names) c none)
  | [], _, _, _, _, h => .inl h
  | (n, k) :: r, h, acc, x, c, hm => by
    unfold cellsFrom at hm
    unfold pushCells
    split at hm
    · rename_i hk
      rw [if_pos hk]
      have hk : k = .cell := by simpa using hk
      rw [← Heap.size_push h { cls := .type "cell", data := .cell none }] at hm
      rcases cells_mem hm with hm | ⟨h1, h2, h3⟩
      · rcases List.mem_cons.mp hm with e | hm
        · cases e
          exact .inr ⟨hk ▸ List.mem_cons_self, Nat.le_refl _, _, pushCells_keeps r _ _ _ (Heap.get?_push_size _ rfl), rfl⟩
        · exact .inl hm
      · rw [Heap.size_push] at h2
        exact .inr ⟨List.mem_cons_of_mem _ h1, Nat.le_of_succ_le h2, h3⟩
    · rename_i hk
      rw [if_neg hk]
      rcases cells_mem hm with hm | ⟨h1, h2, h3⟩
      · exact .inl hm
      · exact .inr ⟨List.mem_cons_of_mem _ h1, h2, h3⟩
theorem cells_acc : ∀ {names : List (Str × NameKind)} {n : Nat} {acc : List (Str × Addr)} {p : Str × Addr}, p ∈ acc → p ∈ cellsFrom n names acc
  | [], _, _, _, h => h
  | (m, k) :: r, n, acc, p, h => by
    unfold cellsFrom
    split
    · exact cells_acc (List.mem_cons_of_mem _ h)
    · exact cells_acc h
theorem cells_has : ∀ {names : List (Str × NameKind)} {n : Nat} {acc : List (Str × Addr)} {x : Str}, (x, .cell) ∈ names → ∃ c, (x, c) ∈ cellsFrom n names acc
  | (m, k) :: r, n, acc, x, h => by
    unfold cellsFrom
    rcases List.mem_cons.mp h with e | h
    · cases e
      exact ⟨n, cells_acc List.mem_cons_self⟩
    · split
      · exact cells_has h
      · exact cells_has h
theorem cells_inj : ∀ {names : List (Str × NameKind)} {h : Heap} {acc : List (Str × Addr)} {x y : Str} {c : Addr}, (∀ p ∈ acc, p.2 < h.objs.size) → (∀ x y c, (x, c) ∈ acc → (y, c) ∈ acc → x = y) →
    (x, c) ∈ cellsFrom h.objs.size names acc → (y, c) ∈ cellsFrom h.objs.size names acc → x = y
  | [], _, _, _, _, _, _, hi, h1, h2 => hi _ _ _ h1 h2
  | (n, k) :: r, h, acc, x, y, c, hl, hi, h1, h2 => by
    unfold cellsFrom at h1 h2
    split at h1
    · rename_i hk
      rw [if_pos hk] at h2
      rw [← Heap.size_push h { cls := .type "cell", data := .cell none }] at h1 h2
      refine cells_inj (h := h.push _) (fun p hp => ?_) (fun x y c a b => ?_) h1 h2
      · rw [Heap.size_push]
        rcases List.mem_cons.mp hp with rfl | hp
        · exact Nat.lt_succ_self _
        · exact Nat.lt_succ_of_lt (hl p hp)
      · rcases List.mem_cons.mp a with e | a <;> rcases List.mem_cons.mp b with e' | b
        · cases e; cases e'; rfl
        · cases e; exact absurd (hl _ b) (Nat.lt_irrefl _)
        · cases e'; exact absurd (hl _ a) (Nat.lt_irrefl _)
        · exact hi _ _ _ a b
    · rename_i hk
      rw [if_neg hk] at h2
      exact cells_inj hl hi h1 h2
theorem newEnv_comp {M : Model} {A : Around} {E : Value → Shared → Prop} {s : Shared} {scope : Scope} {globals : Addr} {closure : List (Str × Addr)} {qual : Str} {func : Option Addr} {code : Value} {around : Env} {builtins : Addr} {Q : Env → Shared → Prop}
    (h : Q (newEnv scope s.heap.objs.size globals (cellsFrom (s.heap.objs.size + 1) scope.names closure) qual func code (some around) builtins)
      { s with heap := pushCells (s.heap.push { cls := .type "dict", data := .dict #[] }) scope.names }) :
    wpAny M A (newFunctionEnv scope globals closure [] qual func code (some around) builtins) Q E s := by
  simp only [newFunctionEnv, Option.isSome_some, if_true]
  refine wpAny_bind (wpAny_alloc ?_)
  refine wpAny_bind (wpAny_layCells _ (fun n k c => rfl) scope.names closure _ _ ?_)
  rw [show ({ s with heap := s.heap.push { cls := .type "dict", data := .dict #[] } } : Shared).heap.objs.size = s.heap.objs.size + 1 from Heap.size_push ..]
  rw [List.forIn_nil]
  exact wpAny_bind (wpAny_pure (wpAny_pure h))
/-- every name of the written scope, in the scope that runs -/
theorem lookup_relS {sc : Scope} : ∀ {names : List (Str × NameKind)} {x : Str} {k : NameKind},
    (names.map fun (n, k) => if (k == NameKind.free && sc.kind == .function && sc.names.lookup n == some .cell) then (n, NameKind.cell) else (n, k)).lookup x = some k →
    ∃ k', names.lookup x = some k' ∧ (k = k' ∨ (k' = .free ∧ k = .cell))
  | [], _, _, h => by simp at h
  | (n, k₀) :: r, x, k, h => by
    have ih := @lookup_relS sc r x k
    have h' : List.lookup x ((if (k₀ == NameKind.free && sc.kind == .function && sc.names.lookup n == some .cell) = true then (n, NameKind.cell) else (n, k₀)) :: (r.map _)) = some k := h
    cases hx : x == n with
    | true =>
      simp only [List.lookup_cons, hx]
      by_cases hc : (k₀ == NameKind.free && sc.kind == .function && sc.names.lookup n == some .cell) = true
      · rw [if_pos hc] at h'
        simp only [List.lookup_cons, hx] at h'
        cases h'
        simp only [Bool.and_eq_true, beq_iff_eq] at hc
        exact ⟨k₀, rfl, .inr ⟨hc.1.1, rfl⟩⟩
      · rw [if_neg hc] at h'
        simp only [List.lookup_cons, hx] at h'
        cases h'
        exact ⟨_, rfl, .inl rfl⟩
    | false =>
      simp only [List.lookup_cons, hx]
      by_cases hc : (k₀ == NameKind.free && sc.kind == .function && sc.names.lookup n == some .cell) = true
      · rw [if_pos hc] at h'
        simp only [List.lookup_cons, hx] at h'
        exact ih h'
      · rw [if_neg hc] at h'
        simp only [List.lookup_cons, hx] at h'
        exact ih h'
/-- the names of a comprehension's block: its own (with their places in N), or captured -/
structure BlkOk (N : List Str) (sc scope : Scope) (own : List (Str × Nat)) : Prop where
  kind : scope.kind = .function
  uniq : ∀ y ∈ scope.names, scope.names.lookup y.1 = some y.2
  ix : ∀ p ∈ own, N[p.2]? = some p.1
  free : ∀ y ∈ scope.names, y.2 = .free → sc.names.lookup y.1 = some .cell ∨ sc.names.lookup y.1 = some .free
  own : ∀ y ∈ scope.names, y.2 = .local ∨ y.2 = .cell → y.1 ∈ own.map (·.1) ∨ y.1 ∉ N
/-- the slots of the block's own names forgotten -/
def wipe (σ : St) : List Nat → St
  | [] => σ
  | v :: vs => (wipe σ vs).set v none
theorem wipe_length (σ : St) : ∀ vs : List Nat, (wipe σ vs).length = σ.length
  | [] => rfl
  | v :: vs => by unfold wipe; rw [List.length_set, wipe_length σ vs]
theorem wipe_some {σ : St} {i : Nat} {x : V} : ∀ {vs : List Nat}, (wipe σ vs)[i]? = some (some x) → σ[i]? = some (some x) ∧ i ∉ vs
  | [], h => ⟨h, by simp⟩
  | v :: vs, h => by
    unfold wipe at h
    by_cases hi : v = i
    · subst hi
      by_cases hv : v < (wipe σ vs).length
      · rw [List.getElem?_set_self hv] at h; cases h
      · rw [List.getElem?_eq_none (by simpa using hv)] at h; cases h
    · rw [List.getElem?_set_ne hi] at h
      obtain ⟨h1, h2⟩ := wipe_some h
      exact ⟨h1, by simp only [List.mem_cons, not_or]; exact ⟨fun e => hi e.symm, h2⟩⟩
/-- the context of a block that starts at s, its iterator's objects at fp -/
abbrev Cx.blk (X : Cx) (s : Shared) (H : Hp) (scope : Scope) (cenv : Env) (fp : List Addr) : Cx := { X with s_0 := s, H_0 := H, env := cenv, outer := X.stack, ex := fp, fn := fun x => scope.names.lookup x == some .cell, pn := [], xe := fun _ _ => False }
section
variable {X : Cx} {pins : List (Addr × Obj)} {σ : St} {H : Hp} {s : Shared}
theorem block_start {scope : Scope} {own : List (Str × Nat)} {fp : List Addr} (I : Inv X pins σ H s) (ok : BlkOk X.N X.env.scope scope own) (hN : X.N.Nodup) (hfp : ∀ b ∈ fp, FpOk X pins H b ∧ b < s.heap.objs.size) :
    Inv (X.blk s H scope (compEnvC scope (cellsFrom (s.heap.objs.size + 1) scope.names (cloFrom X.env.cells scope.names [])) s.heap.objs.size X.env) fp) [] (wipe σ (own.map (·.2))) H { s with heap := pushCells (s.heap.push { cls := .type "dict", data := .dict #[] }) scope.names } := by
  have hfree : ∀ y ∈ scope.names, y.2 = .free → ∃ c, X.env.cells.lookup y.1 = some c := fun y hy e => by
    rcases ok.free y hy e with k | k
    · exact I.ok.has _ (.inl k)
    · exact I.ok.has _ (.inr k)
  generalize hcenv : compEnvC scope (cellsFrom (s.heap.objs.size + 1) scope.names (cloFrom X.env.cells scope.names [])) s.heap.objs.size X.env = cenv
  have kp : ∀ b o, s.heap.get? b = some o → (pushCells (s.heap.push { cls := .type "dict", data := .dict #[] }) scope.names).get? b = some o := fun b o e => pushCells_keeps _ _ _ _ (Heap.get?_push_of_some _ e)
  have hL : cenv.locals = s.heap.objs.size := by rw [← hcenv]; rfl
  have hcl : cenv.cells = cellsFrom (s.heap.objs.size + 1) scope.names (cloFrom X.env.cells scope.names []) := by rw [← hcenv]; rfl
  have hsc : cenv.scope = relS scope X.env.scope := by rw [← hcenv]; rfl
  rw [← Heap.size_push s.heap { cls := .type "dict", data := .dict #[] }] at hcl
  have cm : ∀ {y c}, (y, c) ∈ cloFrom X.env.cells scope.names [] → X.env.cells.lookup y = some c ∧ c < s.heap.objs.size := fun {y c} hm => by
    rcases cloFrom_mem hm with hm | ⟨h1, rfl⟩
    · cases hm
    · obtain ⟨c, hc⟩ := hfree _ h1 rfl
      rw [hc]
      obtain ⟨w, z⟩ := I.cell _ _ hc
      exact ⟨rfl, z.lt⟩
  have mem : ∀ {y c}, cenv.cells.lookup y = some c → (X.env.cells.lookup y = some c ∧ c < s.heap.objs.size) ∨ (s.heap.objs.size + 1 ≤ c ∧ CellAt (pushCells (s.heap.push { cls := .type "dict", data := .dict #[] }) scope.names) c none) := fun {y c} e => by
    rw [hcl] at e
    rcases cells_mem (PySem.mem_of_lookup e) with hm | ⟨_, h2, h3⟩
    · exact .inl (cm hm)
    · rw [Heap.size_push] at h2; exact .inr ⟨h2, h3⟩
  have look : ∀ {y}, scope.names.lookup y = some .free → ∃ c, cenv.cells.lookup y = some c ∧ X.env.cells.lookup y = some c := fun {y} hl => by
    have hy : (y, NameKind.free) ∈ scope.names := PySem.mem_of_lookup hl
    obtain ⟨c', e'⟩ := mem_lookup (cells_acc (names := scope.names) (n := (s.heap.push { cls := .type "dict", data := .dict #[] }).objs.size) (cloFrom_has (cells := X.env.cells) (acc := []) hy))
    rw [← hcl] at e'
    refine ⟨c', e', ?_⟩
    rw [hcl] at e'
    rcases cells_mem (PySem.mem_of_lookup e') with hm | ⟨h1, _, _⟩
    · exact (cm hm).1
    · have := ok.uniq _ h1
      rw [hl] at this; cases this
  have okB : (X.blk s H scope cenv fp).Ok := by
    refine ⟨I.ok.mod, by show cenv.scope.kind = _; rw [hsc]; exact ok.kind, by show cenv.globals = _; rw [← hcenv]; exact I.ok.glob, by show cenv.builtins = _; rw [← hcenv]; exact I.ok.blt, by show s.heap.objs.size ≤ cenv.locals; rw [hL]; exact Nat.le_refl _,
      fun y z c e1 e2 => ?_, fun y hy => ?_, fun y c z e => ?_, I.ok.hd, I.ok.frames, .inl rfl, fun b hb => ⟨?_, fun y c e z => ?_⟩, I.bs, Nat.le_trans I.ok.bsz I.sz, fun b o e hb => ?_, fun b hb z => ?_, I.stack, I.stkFree⟩
    · have e1 : cenv.cells.lookup y = some c := e1
      have e2 : cenv.cells.lookup z = some c := e2
      rw [hcl] at e1 e2
      refine cells_inj (fun p hp => ?_) (fun y z c a b => I.ok.inj y z c (cm a).1 (cm b).1) (PySem.mem_of_lookup e1) (PySem.mem_of_lookup e2)
      rw [Heap.size_push]
      exact Nat.lt_succ_of_lt (cm (y := p.1) (c := p.2) hp).2
    · show ∃ c, cenv.cells.lookup y = some c
      have key : ∀ k, cenv.kindOf y = some k → (k = .cell ∨ k = .free) → ∃ c, cenv.cells.lookup y = some c := fun k hk hk' => by
        unfold Env.kindOf at hk
        rw [hsc] at hk
        obtain ⟨k', e, r⟩ := lookup_relS hk
        have : k' = .cell ∨ k' = .free := by
          rcases r with rfl | ⟨rfl, _⟩
          · exact hk'
          · exact .inr rfl
        rcases this with rfl | rfl
        · obtain ⟨c, hm⟩ := cells_has (n := (s.heap.push { cls := .type "dict", data := .dict #[] }).objs.size) (acc := cloFrom X.env.cells scope.names []) (PySem.mem_of_lookup e)
          obtain ⟨c', e'⟩ := mem_lookup hm
          exact ⟨c', by rw [hcl]; exact e'⟩
        · obtain ⟨c, h1, _⟩ := look e
          exact ⟨c, h1⟩
      rcases hy with hy | hy
      · exact key _ hy (.inl rfl)
      · exact key _ hy (.inr rfl)
    · have z : (scope.names.lookup y == some NameKind.cell) = true := z
      have z : scope.names.lookup y = some .cell := by simpa using z
      have e : cenv.cells.lookup y = some c := e
      rw [hcl] at e
      rcases cells_mem (PySem.mem_of_lookup e) with hm | ⟨_, h2, _⟩
      · rcases cloFrom_mem hm with hm | ⟨h1, _⟩
        · cases hm
        · have q := ok.uniq _ h1
          rw [z] at q; cases q
      · rw [Heap.size_push] at h2
        exact Nat.le_of_succ_le h2
    · show b ≠ cenv.locals
      rw [hL]; exact Nat.ne_of_lt (hfp b hb).2
    · have e : cenv.cells.lookup y = some c := e
      rcases mem e with ⟨h1, _⟩ | ⟨h1, _⟩
      · exact (hfp b hb).1.2.2.2.2.1 y c h1 z
      · have h2 : s.heap.objs.size + 1 ≤ b := by rw [← z]; exact h1
        exact absurd (Nat.lt_of_lt_of_le (hfp b hb).2 (Nat.le_of_succ_le h2)) (Nat.lt_irrefl _)
    · rcases (hfp b hb).1.2.2.2.1 with z | z
      · exact I.ok.noex b o e z
      · exact absurd (Nat.lt_of_lt_of_le (Heap.lt_size e) (Nat.le_trans I.ok.bsz z)) (Nat.lt_irrefl _)
    · rcases List.mem_cons.mp (I.stkSub b z) with z | z
      · exact (hfp b hb).1.2.1 z
      · exact (hfp b hb).1.2.2.1 z
  refine ⟨okB, rfl, I.bare, Un.kept kp, ⟨fun _ => none, ?_, fun i y av e1 e2 e3 => ?_⟩, fun y c e => ?_, ?_, fun y c e => ?_, fun p hp => ?_, I.hok.kept kp, by rw [wipe_length]; exact I.len⟩
  · show Heap.Ns _ cenv.locals _
    rw [hL]
    exact Heap.Ns.keeps (Heap.Ns.new ..) fun b o e => pushCells_keeps _ _ _ _ e
  · obtain ⟨e2, hne⟩ := wipe_some e2
    have hfr : scope.names.lookup y = some .free ∧ (cenv.kindOf y = some .cell ∨ cenv.kindOf y = some .free) := by
      have key : ∀ k, cenv.scope.names.lookup y = some k → k = .local ∨ k = .cell ∨ k = .free → scope.names.lookup y = some .free ∧ (cenv.kindOf y = some .cell ∨ cenv.kindOf y = some .free) := fun k hk hk' => by
        have hk0 := hk
        rw [hsc] at hk
        obtain ⟨k', e, r⟩ := lookup_relS hk
        have no : ¬ (k' = .local ∨ k' = .cell) := fun hh => by
          rcases ok.own _ (PySem.mem_of_lookup e) hh with e' | e'
          · obtain ⟨p, hp, hpy⟩ := List.mem_map.mp e'
            have e3 := ok.ix p hp
            have : p.1 = y := hpy
            rw [this] at e3
            exact hne (List.mem_map.mpr ⟨p, hp, nodup_ix hN e3 e1⟩)
          · exact e' (List.mem_of_getElem? e1)
        rcases r with rfl | ⟨rfl, rfl⟩
        · rcases hk' with rfl | rfl | rfl
          · exact absurd (.inl rfl) no
          · exact absurd (.inr rfl) no
          · exact ⟨e, .inr hk0⟩
        · exact ⟨e, .inl hk0⟩
      have e3 : Vis cenv.scope y := e3
      rcases e3 with e3 | e3 | e3
      · exact key _ e3 (.inl rfl)
      · exact key _ e3 (.inr (.inl rfl))
      · exact key _ e3 (.inr (.inr rfl))
    obtain ⟨m, hn, hl⟩ := I.loc
    have hvis : Vis X.env.scope y := (ok.free _ (PySem.mem_of_lookup hfr.1) rfl).elim (fun k => .inr (.inl k)) (fun k => .inr (.inr k))
    obtain ⟨w, r, q⟩ := hl i y av e1 e2 hvis
    refine ⟨w, r, .inr ⟨hfr.2, ?_⟩⟩
    obtain ⟨c, h1, h2⟩ := look hfr.1
    rcases q with ⟨k, _⟩ | ⟨_, c', e', z⟩
    · have k : X.env.scope.names.lookup y = some .local := k
      rcases ok.free _ (PySem.mem_of_lookup hfr.1) rfl with k' | k' <;> rw [show X.env.scope.names.lookup y = _ from k'] at k <;> cases k
    · rw [h2] at e'; cases e'
      exact ⟨c, h1, z.keeps kp⟩
  · have e : cenv.cells.lookup y = some c := e
    rcases mem e with ⟨h1, _⟩ | ⟨_, z⟩
    · obtain ⟨w, z⟩ := I.cell y c h1
      exact ⟨w, z.keeps kp⟩
    · exact ⟨_, z⟩
  · show H cenv.locals = none
    rw [hL]; exact I.hok.fresh (Nat.le_refl _)
  · have e : cenv.cells.lookup y = some c := e
    rcases mem e with ⟨h1, _⟩ | ⟨h1, _⟩
    · exact I.freeC y c h1
    · exact I.hok.fresh (Nat.le_of_succ_le h1)
  · exact absurd (show p ∈ ([] : List (Addr × Obj)) ++ [] from hp) (by simp)
/-- an item appended to a tracked list -/
theorem app_ok {E : Value → Shared → Prop} {D : Addr} {xs : List V} {y : V} {v : Value} {Q : Value → Shared → Prop} (I : Inv X pins σ H s) (hD : H D = some (.lst xs)) (hz : xs.length < sizeLine) (r : RelV y v)
    (h : ∀ s', Inv X pins σ (upd H D (.lst (xs ++ [y]))) s' → Q .none s') : wpAny (model X.prog X.w) X.A (call (.builtin "list.append") [.ref D, v]) Q E s := by
  obtain ⟨hz', its, n, ri, e⟩ := I.hok D _ hD
  have hl := ri.length
  refine append_at (hsz := by rw [List.size_toArray]; omega) e fun h' sb ho' => ?_
  refine h { s with heap := h' } (I.write (t' := s.toks) (by rw [hD]; trivial) (.inl rfl) (fun b u hb q => (sb.2 b hb).trans q) ⟨_, ho'⟩ ⟨by rw [List.length_append]; exact hz, its ++ [v], n + 1, ri.append (.cons r .nil), ?_⟩)
  rw [ho']
  simp
/-- a clause's tests -/
def PTs (X : Cx) (ifs : List Expr) (t : TT) : Prop :=
  ∀ (pins : List (Addr × Obj)) (s : Shared) (σ : St) (H : Hp) (Q : Bool → Hp → Prop), Inv X pins σ H s → t σ H Q →
    wpAny (model X.prog X.w) X.A (forIn ifs true fun c r => if r = true then do let ok ← isTrue c X.env (eval c X.env); pure (ForInStep.yield ok) else pure (ForInStep.yield r)) (TP X pins σ Q) X.xe s
def tYes : TT := fun _ H Q => Q true H
theorem pts_nil : PTs X [] tYes := fun _ _ _ H _ I h => wpAny_tests_nil ⟨H, I, h⟩
theorem pts_one {c : Expr} {t : TT} (h : PT X c t) : PTs X [c] t := fun pins s σ H Q I hw => wpAny_tests_one (h pins s σ H Q I hw)
end
theorem thnF {α : Type} {t : Sem α} {Q Q' : α → Shared → Prop} {M : Model} {A : Around} {E : Value → Shared → Prop} {s : Shared} (h : wpAny M A t Q (fun _ _ => False) s) (hQ : ∀ a s, Q a s → Q' a s) : wpAny M A t Q' E s := wpAny_mono h hQ fun _ _ z => False.elim z
/-- the loop of a list comprehension's block, the target of any form (codeAny_compLoop_tests asks a target that no tuple goes to; statement and proof follow it, PyProof/CompMap.lean:41-61, with the step letOwnedTupleGo kept) -/
theorem compLoop_any {prog : Program} {w : World} {A : Around} {R : Result → Shared → Prop} {s : Shared} {elt target iter : Expr} {ifs : List Expr} {scope : Scope} {pos : Pos} {it acc : Value} {env : Env} (I : Nat → Shared → Prop)
    (turn : ∀ n s, I n s → wpAny (model prog w) A (pyNext it) (fun r s₁ => match r with
      | none => R (.ok .next) s₁
      | some v => wpAny (model prog w) A (letOwnedTupleGo target it v) (fun _ s₁' => wpAny (model prog w) A (assign target env v) (fun _ s₂ =>
          wpAny (model prog w) A (forIn ifs true fun c r => if r = true then do let ok ← isTrue c env (eval c env); pure (ForInStep.yield ok) else pure (ForInStep.yield r)) (fun ok s₃ =>
            if ok = true then wpAny (model prog w) A (eval elt env) (fun x s₄ =>
              wpAny (model prog w) A (call (.builtin "list.append") [acc, x]) (fun _ s₅ => ∃ m, m < n ∧ I m s₅) (notedBy (model prog w) A env fun e s' => R (.error e) s') s₄) (notedBy (model prog w) A env fun e s' => R (.error e) s') s₃
            else ∃ m, m < n ∧ I m s₃) (notedBy (model prog w) A env fun e s' => R (.error e) s') s₂) (notedBy (model prog w) A env fun e s' => R (.error e) s') s₁') (notedBy (model prog w) A env fun e s' => R (.error e) s') s₁) (notedBy (model prog w) A env fun e s' => R (.error e) s') s)
    (n : Nat) (h : I n s) :
    codeAny (model prog w) A (.compLoop (.ListComp elt [⟨target, iter, ifs, 0⟩] scope pos) 0 it acc env) R s := by
  refine codeAny_loop rfl I (fun n s hI => ?_) n h
  show wpAny _ A ((compTurn (.ListComp elt [⟨target, iter, ifs, 0⟩] scope pos) 0 it acc env).onRaise (fun x => do noteFrame x env; theTreesLotGoes x)) _ _ s
  refine wpAny_noted ?_
  rw [compTurn_list]
  refine wpAny_bind (wpAny_standAt (wpAny_bind (wpAny_mono (turn n s hI) (fun r s₁ h₁ => ?_) fun _ _ h' => h')))
  cases r with
  | none => exact wpAny_pure h₁
  | some v =>
    refine wpAny_bind (wpAny_mono h₁ (fun _ s₁' h₁' => ?_) fun _ _ h' => h')
    refine wpAny_bind (wpAny_mono h₁' (fun _ s₂ h₂ => wpAny_bind (wpAny_mono h₂ (fun ok s₃ h₃ => ?_) fun _ _ h' => h')) fun _ _ h' => h')
    cases ok with
    | false => exact wpAny_pure ⟨rfl, h₃⟩
    | true =>
      exact wpAny_bind (wpAny_bind (wpAny_mono h₃ (fun x s₄ h₄ => wpAny_bind (wpAny_mono h₄ (fun _ s₅ h₅ => wpAny_pure (wpAny_pure ⟨rfl, h₅⟩)) fun _ _ h' => h')) fun _ _ h' => h'))
section
variable {X : Cx}
/-- [elt for target in iter if ..]: D the new list; W by the turn and a measure, Nx what a turn is to reach -/
def tLc (wi : TI) (g : TG) (tt : TT) (te : TE) (vs : List Nat) : TE := fun σ H Q => wi σ H fun J H1 => ∀ D, H1 D = none → ∃ W : Nat → Nat → Hp → Prop, (∃ m, W 0 m (upd H1 D (.lst []))) ∧ ∀ i m H, W i m H →
  (J.stop i H ∧ Q (.ref D) H) ∨ (J.go i H ∧ ∃ Nx : Hp → Prop, (∀ H', Nx H' → ∃ m', m' < m ∧ W (i + 1) m' H') ∧ ∀ x H', J.yld i H x H' → g x (wipe σ vs) H' fun σ2 H2 => wipe σ2 vs = wipe σ vs ∧ tt σ2 H2 fun b H3 =>
    if b = true then te σ2 H3 fun y H4 => ∃ acc, H4 D = some (.lst acc) ∧ acc.length < sizeLine ∧ Nx (upd H4 D (.lst (acc ++ [y]))) else Nx H3)
theorem lc_core {pins : List (Addr × Obj)} {s : Shared} {σ : St} {H : Hp} {Q : VK} {elt tg iter : Expr} {ifs : List Expr} {scope : Scope} {own : List (Str × Nat)} {pos pos' : Pos} {wi : TI} {g : TG} {tt : TT} {te : TE} {use : Option (Value → Sem Unit)} {Qf : Value → Shared → Prop}
    (hc : X.calm = true) (hN : X.N.Nodup) (I : Inv X pins σ H s) (hi : PI X tg iter wi) (ok : BlkOk X.N X.env.scope scope own)
    (hg : ∀ (s : Shared) (H : Hp) (C : Addr) (cl : List (Str × Addr)) (fp : List Addr), PG (X.blk s H scope (compEnvC scope cl C X.env) fp) tg g) (ht : ∀ (s : Shared) (H : Hp) (C : Addr) (cl : List (Str × Addr)) (fp : List Addr), PTs (X.blk s H scope (compEnvC scope cl C X.env) fp) ifs tt)
    (he : ∀ (s : Shared) (H : Hp) (C : Addr) (cl : List (Str × Addr)) (fp : List Addr), PE (X.blk s H scope (compEnvC scope cl C X.env) fp) elt te) (hs : ∀ x, foldedSetIterable iter X.env x = pure x)
    (h : tLc wi g tt te (own.map (·.2)) σ H Q)
    (hRR : ∀ D C s' m H', Inv X pins σ H' s' → Q (.ref D) H' → s'.heap.Ns C m → FpOk X pins H' C → compPost (model X.prog X.w) X.A X.xe use Qf (.ref D) C (.ok .next) s') :
    wpAny (model X.prog X.w) X.A (comprehension (.ListComp elt [⟨tg, iter, ifs, 0⟩] scope pos) scope X.env pos' (newList []) false (eval iter X.env) use) Qf X.xe s := by
  have hfree : ∀ y ∈ scope.names, y.2 = .free → ∃ c, X.env.cells.lookup y.1 = some c := fun y hy e => by
    rcases ok.free y hy e with k | k
    · exact I.ok.has _ (.inl k)
    · exact I.ok.has _ (.inr k)
  refine wpAny_comprehension_free (use := use) rfl hs (closure_ok hfree) ok.kind (fun y hy e => by rw [ok.uniq y hy, e])
    (thn (hi pins s σ H _ I h) fun xv s1 hx => thn hx fun itv s2 h2 => ?_)
  obtain ⟨it, fp, tn, J, H2, e, I2, T, st2, f2, q⟩ := h2
  subst e
  refine wpAny_newObj_type (newEnv_comp ?_) (by show 0 ≤ sizeLine; decide)
  generalize hD : s2.heap.objs.size = D
  have hDn : H2 D = none := I2.hok.fresh (Nat.le_of_eq hD)
  obtain ⟨W, ⟨m0, w0⟩, turn⟩ := q D hDn
  -- the new list
  generalize hs3 : ({ s2 with heap := s2.heap.push { cls := .type "list", data := .seq ([] : List Value).toArray } } : Shared) = s3
  have I3 : Inv X pins σ (upd H2 D (.lst [])) s3 := by
    rw [← hs3]
    refine I2.laid (t' := s2.toks) (fun b o e => Heap.get?_push_of_some _ e) (Nat.le_of_eq hD) ⟨Nat.zero_le _, [], 0, .nil, ?_⟩
    rw [← hD]
    exact Heap.get?_push_size _ rfl
  have h3 : s3.heap = s2.heap.push { cls := .type "list", data := .seq ([] : List Value).toArray } := by rw [← hs3]
  have sz : ∀ b ∈ fp, b < s2.heap.objs.size := fun b hb => by
    obtain ⟨o, e, _⟩ := T.obj _ _ st2 b hb
    exact Heap.lt_size e
  have f3 : ∀ b ∈ fp, FpOk X pins (upd H2 D (.lst [])) b ∧ b < s3.heap.objs.size := fun b hb => by
    have hlt := sz b hb
    refine ⟨⟨?_, (f2 b hb).2⟩, by rw [h3, Heap.size_push]; exact Nat.lt_succ_of_lt hlt⟩
    rw [upd_ne (by rw [← hD]; exact Nat.ne_of_lt hlt)]
    exact (f2 b hb).1
  have st3 : tn 0 s3.heap := T.keep _ _ _ st2 fun b _ o e => by rw [h3]; exact Heap.get?_push_of_some _ e
  have I4 := block_start I3 ok hN f3
  have pg := hg s3 (upd H2 D (.lst [])) s3.heap.objs.size (cellsFrom (s3.heap.objs.size + 1) scope.names (cloFrom X.env.cells scope.names [])) fp
  have pt := ht s3 (upd H2 D (.lst [])) s3.heap.objs.size (cellsFrom (s3.heap.objs.size + 1) scope.names (cloFrom X.env.cells scope.names [])) fp
  have pe := he s3 (upd H2 D (.lst [])) s3.heap.objs.size (cellsFrom (s3.heap.objs.size + 1) scope.names (cloFrom X.env.cells scope.names [])) fp
  show codeAny _ _ (.compStart (.ListComp elt [⟨tg, iter, ifs, 0⟩] scope pos) 0 (.ref it) (.ref D) (compEnvC scope (cellsFrom (s3.heap.objs.size + 1) scope.names (cloFrom X.env.cells scope.names [])) s3.heap.objs.size X.env)) (compPost (model X.prog X.w) X.A X.xe use Qf (.ref D) s3.heap.objs.size) { s3 with heap := pushCells (s3.heap.push { cls := .type "dict", data := .dict #[] }) scope.names }
  have nfp : ∀ b ∈ fp, (upd H2 D (.lst [])) b = none := fun b hb => (f3 b hb).1.1
  generalize hce : compEnvC scope (cellsFrom (s3.heap.objs.size + 1) scope.names (cloFrom X.env.cells scope.names [])) s3.heap.objs.size X.env = ce at I4 pg pt pe ⊢
  have cL : ce.locals = s3.heap.objs.size := by subst hce; rfl
  generalize hH3 : upd H2 D (.lst []) = H3 at I3 I4 pg pt pe w0 nfp f3
  generalize hs4 : ({ s3 with heap := pushCells (s3.heap.push { cls := .type "dict", data := .dict #[] }) scope.names } : Shared) = s4 at I4 ⊢
  have st4 : tn 0 s4.heap := T.keep _ _ _ st3 fun b _ o e => by rw [← hs4]; exact pushCells_keeps _ _ _ _ (Heap.get?_push_of_some _ e)
  have stat : ∀ {σ' : St} {H' : Hp} {s' : Shared}, Inv (X.blk s3 H3 scope ce fp) [] σ' H' s' → (∀ b ∈ fp, H' b = none) → ∀ b ∈ fp, FpOk (X.blk s3 H3 scope ce fp) [] H' b := fun {σ' H' s'} I' hn b hb =>
    ⟨hn b hb, (I'.ok.exf b hb).1, I'.ok.exfs b hb, .inl hb, fun x c e => (I'.ok.exf b hb).2 x c e, fun p hp => absurd (show p ∈ ([] : List (Addr × Obj)) ++ [] from hp) (by simp)⟩
  have loop : codeAny (model X.prog X.w) X.A (.compLoop (.ListComp elt [⟨tg, iter, ifs, 0⟩] scope pos) 0 (.ref it) (.ref D) ce) (compPost (model X.prog X.w) X.A X.xe use Qf (.ref D) s3.heap.objs.size) s4 := by
    refine compLoop_any (fun n s' => ∃ i H', Inv (X.blk s3 H3 scope ce fp) [] (wipe σ (own.map (·.2))) H' s' ∧ tn i s'.heap ∧ (∀ b ∈ fp, H' b = none) ∧ W i n H') ?_ m0 ⟨0, H3, I4, st4, nfp, w0⟩
    rintro n s5 ⟨i, H5, I5, st5, n5, w5⟩
    rcases turn i n H5 w5 with ⟨stop, qq⟩ | ⟨go, Nx, hNx, step⟩
    · have td := T.done (X.blk s3 H3 scope ce fp) rfl rfl rfl hc i [] s5 _ H5 (fun _ _ => False) I5 (stat I5 n5) st5 stop
      refine thnF td fun r s6 ⟨hr, I6⟩ => ?_
      subst hr
      -- back in the def's context
      have I7 : Inv X pins σ H5 s6 := I3.call' (ch := fp) I6.os I6.base I6.hok I6.bare fun b hb => ⟨(f3 b hb).1.2.2.2.1, (f3 b hb).1.2.1, (f3 b hb).1.2.2.2.2.1, (f3 b hb).1.2.2.2.2.2⟩
      have nC : H5 s3.heap.objs.size = none := by
        have z : H5 ce.locals = none := I6.free
        rw [cL] at z
        exact z
      obtain ⟨m, hn, _⟩ := I6.loc
      have hn : s6.heap.Ns ce.locals m := hn
      rw [cL] at hn
      exact hRR D s3.heap.objs.size s6 m H5 I7 qq hn (I3.fpOk (Nat.le_refl _) nC)
    · have ti := T.item (X.blk s3 H3 scope ce fp) rfl rfl rfl hc i [] s5 _ H5 (fun _ _ => False) I5 (stat I5 n5) st5 go
      refine thnF ti fun r s6 ⟨u, hr, h6⟩ => ?_
      subst hr
      refine thnF h6 fun _ s7 ⟨x, H7, I7, r7, y7, st7, n7⟩ => ?_
      have I7' := I7.pinned (stat I7 n7) (T.obj _ _ st7)
      refine thnF (pg _ s7 _ H7 x u _ I7' r7 (step x H7 y7)) fun _ s8 ⟨σ8, H8, I8, hw8, q8⟩ => ?_
      refine thnF (pt _ s8 σ8 H8 _ I8 q8) fun b s9 ⟨H9, I9, q9⟩ => ?_
      -- the turn's end
      have fin : ∀ {s' : Shared} {H' : Hp}, Inv (X.blk s3 H3 scope ce fp) ([] ++ pinsAt fp s7.heap) σ8 H' s' → Nx H' → ∃ m, m < n ∧ ∃ i H', Inv (X.blk s3 H3 scope ce fp) [] (wipe σ (own.map (·.2))) H' s' ∧ tn i s'.heap ∧ (∀ b ∈ fp, H' b = none) ∧ W i m H' := fun {s' H'} I' nx => by
        obtain ⟨m', hm, w'⟩ := hNx H' nx
        have pin' : ∀ b ∈ fp, ∀ o, s7.heap.get? b = some o → s'.heap.get? b = some o ∧ H' b = none := fun b hb o e =>
          let z := I'.pin (b, o) (List.mem_append_right _ (List.mem_append_right _ (mem_pinsAt hb e)))
          ⟨z.1, z.2.1⟩
        have hl : (wipe σ (own.map (·.2))).length = σ8.length := by rw [← hw8, wipe_length]
        refine ⟨m', hm, i + 1, H', (I'.unpinned (pins := [])).weak hl (fun j v e => ?_), T.keep _ _ _ st7 fun b hb o e => (pin' b hb o e).1, fun b hb => ?_, w'⟩
        · rw [← hw8] at e
          exact (wipe_some e).1
        · obtain ⟨o, e, _⟩ := T.obj _ _ st7 b hb
          exact (pin' b hb o e).2
      cases b with
      | false =>
        simp only [Bool.false_eq_true, if_false] at q9 ⊢
        exact fin I9 q9
      | true =>
        simp only [if_true] at q9 ⊢
        refine thnF (pe _ s9 σ8 H9 _ I9 q9) fun z s10 ⟨yv, H10, I10, r10, acc, hD10, hz10, nx⟩ => ?_
        exact app_ok (X := X.blk s3 H3 scope ce fp) I10 hD10 hz10 r10 fun s11 I11 => fin I11 nx
  exact codeAny_compStart_list loop (T.self X.A 0 _ _ _ st4 loop)
/-- as a value -/
theorem pe_lc {elt tg iter : Expr} {ifs : List Expr} {scope : Scope} {own : List (Str × Nat)} {pos : Pos} {wi : TI} {g : TG} {tt : TT} {te : TE} (hc : X.calm = true) (hN : X.N.Nodup) (hi : PI X tg iter wi) (ok : BlkOk X.N X.env.scope scope own)
    (hg : ∀ (s : Shared) (H : Hp) (C : Addr) (cl : List (Str × Addr)) (fp : List Addr), PG (X.blk s H scope (compEnvC scope cl C X.env) fp) tg g) (ht : ∀ (s : Shared) (H : Hp) (C : Addr) (cl : List (Str × Addr)) (fp : List Addr), PTs (X.blk s H scope (compEnvC scope cl C X.env) fp) ifs tt)
    (he : ∀ (s : Shared) (H : Hp) (C : Addr) (cl : List (Str × Addr)) (fp : List Addr), PE (X.blk s H scope (compEnvC scope cl C X.env) fp) elt te) (hs : ∀ x, foldedSetIterable iter X.env x = pure x := by intro _; rfl) :
    PE X (.ListComp elt [⟨tg, iter, ifs, 0⟩] scope pos) (tLc wi g tt te (own.map (·.2))) := by
  intro pins s σ H Q I h
  rw [eval_ListComp]
  refine lc_core hc hN I hi ok hg ht he hs h fun D C s' m H' I' q hn f => ⟨m, hn, fun h'' sb => ?_⟩
  obtain ⟨f0, f1, f2, f3, f4, f5⟩ := f
  exact ⟨.ref D, H', I'.turned (t' := s'.toks) (fun b o hb e => (sb.2 b hb).trans e) f0 f1 f3 f4 f5, rfl, q⟩
/-- name = [..] on one line, the name a local -/
theorem ps_setLc {i : Nat} {y : Str} {py : Pos} {elt tg iter : Expr} {ifs : List Expr} {scope : Scope} {own : List (Str × Nat)} {pos spos : Pos} {wi : TI} {g : TG} {tt : TT} {te : TE} (hc : X.calm = true) (hN : X.N.Nodup) (hy : X.N[i]? = some y) (hyl : X.env.scope.names.lookup y = some .local)
    (hsw : swapsWith (.ListComp elt [⟨tg, iter, ifs, 0⟩] scope pos) (some (.Name y py)) spos.line X.env = pure true) (hi : PI X tg iter wi) (ok : BlkOk X.N X.env.scope scope own)
    (hg : ∀ (s : Shared) (H : Hp) (C : Addr) (cl : List (Str × Addr)) (fp : List Addr), PG (X.blk s H scope (compEnvC scope cl C X.env) fp) tg g) (ht : ∀ (s : Shared) (H : Hp) (C : Addr) (cl : List (Str × Addr)) (fp : List Addr), PTs (X.blk s H scope (compEnvC scope cl C X.env) fp) ifs tt)
    (he : ∀ (s : Shared) (H : Hp) (C : Addr) (cl : List (Str × Addr)) (fp : List Addr), PE (X.blk s H scope (compEnvC scope cl C X.env) fp) elt te) (hs : ∀ x, foldedSetIterable iter X.env x = pure x := by intro _; rfl) :
    PS X (.Assign [.Name y py] (.ListComp elt [⟨tg, iter, ifs, 0⟩] scope pos) spos) (tAsg (tLc wi g tt te (own.map (·.2))) (gName i)) := by
  intro pins s σ H D I h
  rw [exec_Assign_Name_used _ _ _ _ hsw]
  refine wpAny_bind (wpAny_standAt (wpAny_bind ?_))
  show wpAny _ X.A (do let _ ← comprehension (.ListComp elt [⟨tg, iter, ifs, 0⟩] scope pos) scope X.env (firstIterPos [⟨tg, iter, ifs, 0⟩] pos) (newList []) false (eval iter X.env) (some (assign (.Name y py) X.env))) _ _ s
  have h : tLc wi g tt te (own.map (·.2)) σ H (fun x H1 => gName i x σ H1 D.nx) := h
  refine wpAny_bind (thn (lc_core (Qf := fun _ s' => SP X pins D .next s') hc hN I hi ok hg ht he hs h fun L C s' m H' I' q hn f => ?_) fun _ s' hq => wpAny_pure (wpAny_pure hq))
  show wpAny _ _ (assign (.Name y py) X.env (.ref L)) _ _ _
  refine wpAny_assign_Name (store_ok2 (v := V.ref L) I' hN hy (.inl hyl) rfl (fun s2 I2 ⟨a, sb, ha⟩ => ?_) (.inr hyl))
  obtain ⟨f0, f1, f2, f3, f4, f5⟩ := f
  have haC : C ≠ a := by
    rcases ha with z | z
    · rw [z]; exact f1
    · exact fun e => f4 y a z e.symm
  refine ⟨m, hn.sameBut sb haC, fun h3 sb3 => ?_⟩
  exact ⟨_, H', I2.turned (t' := s2.toks) (fun b o hb e => (sb3.2 b hb).trans e) f0 f1 f3 f4 f5, q⟩
theorem sw_true {elt : Expr} {gs : List Comprehension} {scope : Scope} {pos py : Pos} {y : Str} {l : Nat} {env : Env} (hk : env.scope.kind = .function) (hy : env.scope.names.lookup y = some .local) (hl : (py.line == pos.line) = true)
    (ha : (scope.names.any fun (n, k) => n == y && (k == .local || k == .cell)) = false) : swapsWith (.ListComp elt gs scope pos) (some (.Name y py)) l env = pure true := by
  have ky : env.kindOf y = some .local := hy
  have hb : env.blockKind = .function := by unfold Env.blockKind; rw [hk]; rfl
  unfold swapsWith
  simp only [hb, ky, ha, Expr.pos, hl]
  rfl
end
/-! ### the forms one uses -/
/-- over a list that the block leaves as it is -/
theorem lc_list {K : PySem.W.Frag} {a : Addr} {xs : List V} {g : TG} {tt : TT} {te : TE} {vs : List Nat} {σ : St} {H1 : Hp} {D : Addr} {Qd : Hp → Prop} (Pv : Nat → Hp → Prop) (h0 : Pv 0 (upd H1 D (.lst []))) (hl : ∀ i H, i ≤ xs.length → Pv i H → SqL K H a xs)
    (hs : ∀ i x H, xs[i]? = some x → Pv i H → g x (wipe σ vs) H fun σ2 H2 => wipe σ2 vs = wipe σ vs ∧ tt σ2 H2 fun b H3 =>
      if b = true then te σ2 H3 fun y H4 => ∃ acc, H4 D = some (.lst acc) ∧ acc.length < sizeLine ∧ Pv (i + 1) (upd H4 D (.lst (acc ++ [y]))) else Pv (i + 1) H3) (hd : ∀ H, Pv xs.length H → Qd H) :
    ∃ W : Nat → Nat → Hp → Prop, (∃ m, W 0 m (upd H1 D (.lst []))) ∧ ∀ i m H, W i m H →
      ((Itl K a).stop i H ∧ Qd H) ∨ ((Itl K a).go i H ∧ ∃ Nx : Hp → Prop, (∀ H', Nx H' → ∃ m', m' < m ∧ W (i + 1) m' H') ∧ ∀ x H', (Itl K a).yld i H x H' → g x (wipe σ vs) H' fun σ2 H2 => wipe σ2 vs = wipe σ vs ∧ tt σ2 H2 fun b H3 =>
        if b = true then te σ2 H3 fun y H4 => ∃ acc, H4 D = some (.lst acc) ∧ acc.length < sizeLine ∧ Nx (upd H4 D (.lst (acc ++ [y]))) else Nx H3) := by
  refine ⟨fun i m H => m = xs.length - i ∧ i ≤ xs.length ∧ Pv i H, ⟨xs.length, by simp, Nat.zero_le _, h0⟩, ?_⟩
  rintro i m H ⟨rfl, hi, p⟩
  have q := hl i H hi p
  by_cases hlt : i < xs.length
  · refine .inr ⟨⟨xs, xs[i], q, by simp [hlt]⟩, Pv (i + 1), fun H' p' => ⟨xs.length - (i + 1), by omega, rfl, hlt, p'⟩, fun x H' y => ?_⟩
    obtain ⟨e, y⟩ := y
    subst e
    exact hs i x _ (y xs q) p
  · have e : i = xs.length := by omega
    subst e
    exact .inl ⟨⟨xs, q, Nat.le_refl _⟩, hd H p⟩
def blkC (N : List Str) (sc scope : Scope) (own : List (Str × Nat)) : Bool :=
  (match scope.kind with | .function => true | _ => false) && (scope.names.all fun y => decide (scope.names.lookup y.1 = some y.2)) && (own.all fun p => decide (N[p.2]? = some p.1)) &&
    (scope.names.all fun y => match y.2 with
      | .free => (match sc.names.lookup y.1 with | some .cell => true | some .free => true | _ => false)
      | .local => decide (y.1 ∈ own.map (·.1)) || decide (y.1 ∉ N)
      | .cell => decide (y.1 ∈ own.map (·.1)) || decide (y.1 ∉ N)
      | _ => true)
theorem blkOk_by {N : List Str} {sc scope : Scope} {own : List (Str × Nat)} (h : blkC N sc scope own = true) : BlkOk N sc scope own := by
  unfold blkC at h
  simp only [Bool.and_eq_true, List.all_eq_true, decide_eq_true_eq] at h
  obtain ⟨⟨⟨h1, h2⟩, h3⟩, h4⟩ := h
  refine ⟨?_, h2, h3, fun y hy e => ?_, fun y hy e => ?_⟩
  · split at h1
    · assumption
    · cases h1
  · have q := h4 y hy
    simp only [e] at q
    split at q <;> first | exact .inl (by assumption) | exact .inr (by assumption) | cases q
  · have q := h4 y hy
    rcases e with e | e <;> (simp only [e, Bool.or_eq_true, decide_eq_true_eq] at q; exact q)
end L2
namespace L2
open PySem PySem.Spec PyProof.Rows
section
variable {X : Cx} {pins : List (Addr × Obj)} {σ : St} {H : Hp} {s : Shared} {h' : Heap}
/-- .. and one new object is laid -/
theorem Inv.turnedNew {t' : Nat} {ch : List Addr} {T : Addr} {ob : HO} (I : Inv X pins σ H s) (k : ∀ b o, b ∉ ch → s.heap.get? b = some o → h'.get? b = some o) (hf : ∀ b ∈ ch, FpOk X pins H b) (hT : s.heap.objs.size ≤ T)
    (new : ObjOk X.prog X.w (upd H T ob) h' T ob) : Inv X pins σ (upd H T ob) { s with heap := h', toks := t' } := by
  have hn : H T = none := I.hok.fresh hT
  have nit : ∀ b u, H b = some u → b ∉ ch := fun b u e z => by
    have q := (hf b z).1
    rw [q] at e; cases e
  refine I.step (g' := s.gens) (d' := s.drawn) (ch := ch) (fun b hb => ⟨(hf b hb).2.2.2.1, (hf b hb).2.1, (hf b hb).2.2.2.2.1, (hf b hb).2.2.2.2.2⟩) (fun b o _ _ hc e _ => k b o hc e) (fun b o _ _ hc e _ => ⟨o.slots, k b o hc e⟩)
    (fun b o _ e n => ?_) (fun b o hc e => ⟨o, k b o hc e⟩) (fun b xs e => ?_) (fun b o u e => ?_) (fun b ps e => ⟨#[], ?_⟩) (fun m hm => ?_) (fun b u e => ?_) I.bare
  · rw [upd_ne (Nat.ne_of_lt (Nat.lt_of_lt_of_le (Heap.lt_size e) hT))]; exact n
  · rw [upd_ne (ne_of_none e hn)]; exact e
  · rw [upd_ne (ne_of_none e hn)]; exact e
  · rw [upd_ne (ne_of_none e hn), e]; simp
  · obtain ⟨o, es, ep, ho, r⟩ := hm
    exact ⟨o, es, ep, k _ o (fun z => (hf _ z).2.1 rfl) ho, r⟩
  · by_cases hb : b = T
    · subst hb
      rw [upd_same] at e
      cases e
      exact new
    · rw [upd_ne hb] at e
      refine (I.hok b u e).stay (fun c v hc q => k c v ?_ q) (fun c q => by rw [upd_ne (ne_of_none q hn)]; exact q) fun c xs q => by rw [upd_ne (ne_of_none q hn)]; exact q
      rcases hc with z | z
      · rw [z]; exact nit b u e
      · exact nit c _ z
/-! ### locking a thing while a statement runs -/
end
section
variable {X : Cx}
/-! ### one iterator just laid -/
theorem pi_one {tg : Expr} {pins : List (Addr × Obj)} {σ : St} {H : Hp} {s : Shared} {R : It → Hp → Prop} {J : It} {tn : Nat → Heap → Prop} {tk : Nat} (I : Inv X pins σ H s) (o : Obj)
    (T : Turn X.prog X.w X.K tg J [s.heap.objs.size] s.heap.objs.size tn) (st : tn 0 (s.heap.push o)) (q : R J H) : PIE X pins σ tg R (.ref s.heap.objs.size) { s with heap := s.heap.push o, toks := tk } := by
  refine ⟨s.heap.objs.size, [s.heap.objs.size], tn, J, H, rfl, I.kept fun b ob e => Heap.get?_push_of_some _ e, T, st, fun b hb => ?_, q⟩
  have e : b = s.heap.objs.size := by simpa using hb
  subst e
  exact I.fpOk (Nat.le_refl _) (I.hok.fresh (Nat.le_refl _))
end
/-! ### range with a step -/
/-- lo, lo + c, .. (n of them) -/
def Itc (lo c : Int) (n : Nat) : It := ⟨fun i _ => i < n, fun i H x H' => H' = H ∧ x = .int (lo + (i : Nat) * c), fun i _ => n ≤ i⟩
theorem turn_rangeC {P : Program} {w : World} {K : PySem.W.Frag} {tg : Expr} (it : Addr) (lo c : Int) (n : Nat) : Turn P w K tg (Itc lo c n) [it] it (fun i h => IsRangeIter h it (lo + (i : Nat) * c) ((n : Int) - (i : Nat)) c) where
  mem := by simp
  obj := fun i h st b hb => by
    have e : b = it := by simpa using hb
    subst e
    exact ⟨_, st, fun v z => nomatch z⟩
  keep := fun i h h' st k => k it (by simp) _ st
  item := by
    intro X hP hw hK hc i pins s σ H E I hf st hg
    subst hP hw hK
    obtain ⟨f0, f1, f2, f3, f4, f5⟩ := hf it (by simp)
    have W := Walks.range (prog := X.prog) (w := X.w) (I.ok.hd hc) it lo c n
    refine W.item i s _ _ hg st fun v h' tk hv st' kk => ?_
    obtain ⟨t, rfl⟩ := hv
    have I1 : Inv X pins σ H { s with heap := h', toks := tk } := I.turned (fun b o hb e => kk b o (by simpa using hb) e) f0 f1 f3 f4 f5
    exact ⟨_, rfl, go_of (s := { s with heap := h', toks := tk }) (n := "range_iterator") st' rfl rfl (by decide) ⟨.int (lo + (i : Nat) * c), H, I1, ⟨t, rfl⟩, ⟨rfl, rfl⟩, st', fun b hb => (hf b hb).1⟩⟩
  done := by
    intro X hP hw hK hc i pins s σ H E I hf st hg
    subst hP hw hK
    obtain ⟨f0, f1, f2, f3, f4, f5⟩ := hf it (by simp)
    exact wpAny_pyNext_range_end (I.ok.hd hc) st (by have : n ≤ i := hg; omega) fun h' eb => ⟨rfl, I.turned (t' := s.toks) (fun b o hb e => eb b o hb e) f0 f1 f3 f4 f5⟩
  self := fun A i s Q E st h => wpAny_pyIter_rangeiter st h
/-- range(i, j, c): small bounds, n items -/
def RgC (i j c : Int) (n : Nat) : Prop := c ≠ 0 ∧ c.natAbs < 1073741824 ∧ Builtin.Range.small i j c = true ∧ Builtin.Range.rangeSize i j c = n
def iRng3 (ta : TA) : TI := fun σ H R => ta σ H fun vs H1 => ∃ (i j c : Int) (n : Nat), vs = [.int i, .int j, .int c] ∧ RgC i j c n ∧ R (Itc i c n) H1
section
variable {X : Cx} {tg : Expr}
theorem pi_range3 {a b c : Expr} {ta : TA} {p pos : Pos} (hg : Gl X "range") (hm : X.mg "range" = none) (ha : PA X [a, b, c] ta)
    (hs : starEach [a, b, c] X.env = (false, eval a X.env) :: starEach [b, c] X.env := by rfl) (hpl : (backTo pos (starEach [b, c] X.env)).any (·.1) = false := by rfl) :
    PI X tg (.Call (.Name "range" p) [a, b, c] [] pos) (iRng3 ta) := by
  intro pins s σ H R I h
  refine Call_ (ld_blt I hg hm boot_range (PyProof.Rows.callWith_type1 (thn (ha pos pins s σ H _ I h) fun us s1 ⟨vs, H1, I1, r1, q1⟩ => ?_) hs hpl))
  obtain ⟨i, j, k, n, e, ⟨c0, c1, c2, c3⟩, q⟩ := q1
  subst e
  cases r1 with
  | cons r rr =>
    cases rr with
    | cons r' rr =>
      cases rr with
      | cons r'' rr =>
        cases rr
        obtain ⟨t, rfl⟩ := r
        obtain ⟨t', rfl⟩ := r'
        obtain ⟨t'', rfl⟩ := r''
        refine call_range_3 c0 ?_ (.inl (PyProof.noPylong_small c1))
        refine wpAny_pyIter_range (IsRange.new ..) c2 ?_
        have I2 : Inv X pins σ H1 { s1 with heap := s1.heap.push { cls := .type "range", data := .fields #[.int i t, .int j t', .int k t''] } } := I1.kept (t' := s1.toks) fun b o e => Heap.get?_push_of_some _ e
        refine pi_one (tk := s1.toks) I2 _ (turn_rangeC _ i k n) ?_ q
        have e1 : i + ((0 : Nat) : Int) * k = i := by simp
        have e2 : (n : Int) - ((0 : Nat) : Int) = Builtin.Range.rangeSize i j k := by rw [c3]; simp
        show IsRangeIter _ _ (i + ((0 : Nat) : Int) * k) ((n : Int) - ((0 : Nat) : Int)) k
        rw [e1, e2]
        exact Heap.get?_push_size _ rfl
end
/-! ### reversed(list) -/
/-! ### a str -/
/-! ### a dict's keys: any dict's entries -/
/-! ### a locked dict -/
/-! ### for k in d, d.keys(), d.values(), d.items() -/
/-! ### enumerate(list) -/
/-- the list at a as it stands at each turn, each item in a new pair -/
def Ite (K : PySem.W.Frag) (a : Addr) : It :=
  ⟨fun i H => ∃ (xs : List V) (x : V), SqL K H a xs ∧ xs[i]? = some x, fun i H v H' => ∃ T x, v = .ref T ∧ H T = none ∧ H' = upd H T (.tup [.int (i : Nat), x]) ∧ ∀ xs, SqL K H a xs → xs[i]? = some x, fun i H => ∃ xs : List V, SqL K H a xs ∧ xs.length ≤ i⟩
theorem turn_enum {P : Program} {w : World} {K : PySem.W.Frag} {elts : List Expr} {kk : Nat} {tpos : Pos} (a e it : Addr) :
    Turn P w K (.Tuple elts kk tpos) (Ite K a) [e, it] e (fun i h => (∃ old, IsEnum h e it ((i : Nat) : Int) old) ∧ h.IsListIter it a i ∧ e ≠ it) where
  mem := by simp
  obj := fun i h st b hb => by
    obtain ⟨⟨old, he⟩, ⟨o, ho, hc, hd⟩, _⟩ := st
    have e' : b = e ∨ b = it := by simpa using hb
    rcases e' with z | z
    · rw [z]; exact ⟨_, he, fun v q => nomatch q⟩
    · rw [z]; exact ⟨o, ho, fun v q => by rw [hd] at q; cases q⟩
  keep := fun i h h' st k => let ⟨⟨old, he⟩, hi, hne⟩ := st; ⟨⟨old, k e (by simp) _ he⟩, hi.at fun o q => k it (by simp) o q, hne⟩
  item := by
    intro X hP hw hK hc i pins s σ H E I hf st hg
    subst hP hw hK
    obtain ⟨⟨old, he⟩, hit, hne⟩ := st
    obtain ⟨xs, x, hq, hx⟩ := hg
    obtain ⟨its, rv, p, hz⟩ := I.list hq
    obtain ⟨u, hu, ru⟩ := rv.get hx
    have hel : e < s.heap.objs.size := Heap.lt_size he
    have hil : it < s.heap.objs.size := by obtain ⟨_, q, _⟩ := hit; exact Heap.lt_size q
    refine wpAny_pyNext_enum_item he hit p.isList (x := u) (by simpa using hu) hne fun h' ho hit' hT hsz hk => ?_
    refine ⟨_, rfl, wpAny_letOwnedTupleGo_enum (s := { s with heap := h', toks := s.toks + 1 }) ho fun h'' he' sb => ?_⟩
    have hT2 : h''.get? s.heap.objs.size = some { cls := .type "tuple", data := .seq #[.int i s.toks, u] } := (sb.2 _ (Nat.ne_of_gt hel)).trans hT
    have new : ObjOk X.prog X.w (upd H s.heap.objs.size (.tup [.int (i : Nat), x])) h'' s.heap.objs.size (.tup [.int (i : Nat), x]) :=
      ⟨by show 2 ≤ sizeLine; decide, [.int i s.toks, u], .cons ⟨_, rfl⟩ (.cons ru .nil), ⟨_, hT2, rfl, _, rfl⟩⟩
    have I1 : Inv X pins σ (upd H s.heap.objs.size (.tup [.int (i : Nat), x])) { s with heap := h'', toks := s.toks + 1 } :=
      I.turnedNew (ch := [e, it]) (fun b ob hb q => (sb.2 b (fun z => hb (by simp [z]))).trans (hk b ob (fun z => hb (by simp [z])) (fun z => hb (by simp [z])) q)) hf (Nat.le_refl _) new
    refine ⟨.ref s.heap.objs.size, _, I1, rfl, ⟨_, x, rfl, I.hok.fresh (Nat.le_refl _), rfl, fun ys hy => by rw [I.list_inj hy hq]; exact hx⟩, ⟨⟨u, ?_⟩, hit'.at fun o q => (sb.2 it (Ne.symm hne)).trans q, hne⟩, fun b hb => ?_⟩
    · have e1 : ((i + 1 : Nat) : Int) = (i : Int) + 1 := by omega
      rw [e1]; exact he'
    · have hb' : b < s.heap.objs.size := by
        have e' : b = e ∨ b = it := by simpa using hb
        rcases e' with z | z
        · rw [z]; exact hel
        · rw [z]; exact hil
      rw [upd_ne (Nat.ne_of_lt hb')]
      exact (hf b hb).1
  done := by
    intro X hP hw hK hc i pins s σ H E I hf st hg
    subst hP hw hK
    obtain ⟨⟨old, he⟩, hit, hne⟩ := st
    obtain ⟨xs, hq, hx⟩ := hg
    obtain ⟨its, rv, p, hz⟩ := I.list hq
    obtain ⟨f0, f1, f2, f3, f4, f5⟩ := hf it (by simp)
    have hl := rv.length
    exact wpAny_pyNext_enum_end (I.ok.hd hc) he hit p.isList (by simp; omega) fun h' eb => ⟨rfl, I.turned (t' := s.toks) (fun b o hb q => eb b o hb q) f0 f1 f3 f4 f5⟩
  self := fun A i s Q E st h => let ⟨⟨_, he⟩, _⟩ := st; wpAny_pyIter_enum he h
def iEnum (K : PySem.W.Frag) (ta : TA) : TI := fun σ H R => ta σ H fun vs H1 => ∃ a xs, vs = [.ref a] ∧ SqL K H1 a xs ∧ R (Ite K a) H1
theorem pi_enum {X : Cx} {e : Expr} {ta : TA} {p pos tpos : Pos} {elts : List Expr} {kk : Nat} (hg : Gl X "enumerate") (hm : X.mg "enumerate" = none) (ha : PA X [e] ta) (hs : starEach [e] X.env = [(false, eval e X.env)] := by rfl) :
    PI X (.Tuple elts kk tpos) (.Call (.Name "enumerate" p) [e] [] pos) (iEnum X.K ta) := by
  intro pins s σ H R I h
  refine Call_ (ld_blt I hg hm boot_enumerate (PyProof.Rows.callWith_type1 (thn (ha pos pins s σ H _ I h) fun us s1 ⟨vs, H1, I1, r1, q1⟩ => ?_) hs rfl))
  obtain ⟨a, xs, ex, hq, q⟩ := q1
  subst ex
  cases r1 with
  | cons r rr =>
    cases rr
    cases r
    obtain ⟨its, rv, p', hz⟩ := I1.list hq
    refine call_enumerate_list p'.isList fun h' he hit hsz hk => wpAny_pyIter_enum he ?_
    have I2 : Inv X pins σ H1 { s1 with heap := h' } := I1.kept (t' := s1.toks) hk
    refine ⟨s1.heap.objs.size + 1, [s1.heap.objs.size + 1, s1.heap.objs.size], _, _, H1, rfl, I2, turn_enum a (s1.heap.objs.size + 1) s1.heap.objs.size, ⟨⟨.none, he⟩, hit, Nat.succ_ne_self _⟩, fun b hb => ?_, q⟩
    have e' : b = s1.heap.objs.size + 1 ∨ b = s1.heap.objs.size := by simpa using hb
    have hle : s1.heap.objs.size ≤ b := by
      rcases e' with z | z
      · rw [z]; exact Nat.le_add_right _ _
      · rw [z]; exact Nat.le_refl _
    exact I1.fpOk hle (I1.hok.fresh hle)
/-! ### zip(list, list) -/
end L2
section 
end 
section 
end 
namespace L2
open PySem PySem.Spec PyProof.Rows
abbrev KOf {K : PySem.W.Frag} {h : Heap} (_ : K.In h) : PySem.W.Frag := K
end L2
/- THE LAST THEOREM (shape; LID, My.* are yours):
   My.Adr: a structure of the addresses that your layer names (classes, functions); My.Txt K t: a structure (Prop) of the equations over K;
   My.txt_mk : {K} {implicit addresses ..} (e1 : nsIn K mainGlobals "law" = some (some (.ref f))) (e2 : K.lookup f = some ⟨oc, od, .func (fnOf "law" "law" params body scope dV kV doc pm an cdv ct), sl⟩) (e3 : codeIn K cdv "law" = true) .. : ∃ t, My.Txt K t
set_option maxRecDepth 100000 in
set_option maxHeartbeats 0 in
theorem PySem.Challenge.cw_LID_holds : PySem.Challenge.rw_LID.Holds := by
  w_on; o_law; k_head; (case hw => w_witness2)
  k_fill
  refine L2.walk_of (l := PySem.Challenge.rw_LID) (n := 63) (k := 40) (x := "script") (CX := fun w => ..) (sp := fun _ => My.sp_law) rfl (by decide) rfl ⟨rfl, by decide, by decide⟩ (fun w h Y => PySem.W.kIn_of Y) ?F ?S ?C
  case F =>
    intro w mg fa h KX G hmg
    have T : ∃ t, My.Txt (L2.KOf KX) t := by
      dsimp only [L2.KOf]                          -- K must stand as «<heap const> w.params» for k_is
      refine' My.txt_mk ?e1 ?e2 ?e3 ..
      (case e1 => PySem.W.k_is)                    -- in the order: a name -> its address -> its object -> its parts
      (case e2 => PySem.W.k_is)
      ..
    obtain ⟨t, T⟩ := T
    have e0 := hmg.symm.trans (PySem.W.mg_of KX G T.law)
    cases e0                                       -- fa is the law's own address
    exact ⟨_, fun s u => .of_eq rfl, fun base kb nb => My.law_fn T kb nb⟩     -- if «.of_eq rfl» comes too early: refine' ⟨_, ?b, fun base kb nb => My.law_fn T kb nb⟩; exact fun s u => .of_eq rfl
  case S => exact fun w H a ns hl hO hS => ..
  case C => exact ..
(the tactic k_is has no namespace: write k_is) -/
/-! SHORT WORDS over the layer: a def of the text, its body, what a loop and a test want. -/
namespace L2
open PySem PySem.Spec PyProof.Rows
/-! ### the text by places -/
/-- the j-th statement of a class's body -/
def inClass (s : Stmt) (j : Nat) : Stmt := match s with
  | .ClassDef _ _ _ body _ _ _ _ _ _ _ => body.getD j (.Pass ⟨0, 0, 0, 0⟩)
  | _ => .Pass ⟨0, 0, 0, 0⟩
def defArgs (s : Stmt) : Arguments := match s with
  | .FunctionDef _ a _ _ _ _ _ _ _ _ => a
  | _ => { posonlyargs := [], args := [], vararg := none, kwonlyargs := [], kw_defaults := [], kwarg := none, defaults := [] }
def defBody (s : Stmt) : List Stmt := match s with
  | .FunctionDef _ _ b _ _ _ _ _ _ _ => b
  | _ => []
def defScope (s : Stmt) : Scope := match s with
  | .FunctionDef _ _ _ _ _ _ sc _ _ _ => sc
  | _ => { kind := .function, names := [], isGenerator := false, isCoroutine := false }
/-! ### no exception leaves a def -/
abbrev CX0 : CXT := fun _ _ _ _ _ _ => False
abbrev E0 : XK := fun _ _ _ => False
theorem pass0 {X : Cx} : Passes CX0 X E0 := fun _ _ _ _ _ _ _ h => h.elim
/-! ### a def (or method) of the text as it stands behind the top -/
structure Fun (K : PySem.W.Frag) (x qual : Str) (st : Stmt) (f : Addr) (fd : FuncData) : Prop where
  ex : ∃ (oc : Value) (od : Option Addr) (kV doc pm : Value) (an : Option Addr) (cdv ct : Value) (osl : Array (Option Value)),
    fd = PySem.W.fnOf x qual (defArgs st) (defBody st) (defScope st) .none kV doc pm an cdv ct ∧ K.lookup f = some ⟨oc, od, .func fd, osl⟩ ∧ PySem.W.codeIn K cdv qual = true
  kp : PySem.W.keepIn K (.ref f) = true
section
variable {P : Program} {w : World} {K : PySem.W.Frag} {mg : Str → Option Value} {base : Heap}
/-- THE RULE for a def: its body as a term of rules, and the reading of that term -/
theorem Fun.ok {x qual : Str} {st : Stmt} {f : Addr} {fd : FuncData} {N ps : List Str} {k : Nat} {sp : Sp} (F : Fun K x qual st f fd) (S : FnScope N ps (defScope st)) (len : ∀ vs H Q E, sp vs H Q E → vs.length = ps.length)
    (hbody : ∀ (cdv : Value) (A : Around) (outer : List Env) (s : Shared) (H : Hp) (vs : List V) (Q : VK) (E : XK), Room k (A.deeper (envOfC qual (defScope st) s.heap.objs.size f cdv)) → sp vs H Q E →
      ∃ t, PSs (cxOf CX0 P w K mg base N qual (defScope st) f cdv A outer s H E).nox (defBody st) t ∧ t { nx := fun _ H' => Q .non H', rt := Q } (start N vs) H) : FnOk P w K mg base CX0 (k + 1) f fd ps sp := by
  obtain ⟨oc, od, kV, doc, pm, an, cdv, ct, osl, rfl, lk, hcd⟩ := F.ex
  refine fn_of lk hcd S len fun A outer s H vs Q E hr hsp => ?_
  obtain ⟨t, h, q⟩ := hbody cdv A outer s H vs Q E hr hsp
  exact ⟨t, h.nox, q⟩
/-- how its arguments bind (no defaults): h is «fun _ _ _ _ _ _ us hl => match us, hl with | [_, _], _ => rfl», one _ a parameter -/
theorem Fun.binds {x qual : Str} {st : Stmt} {f : Addr} {fd : FuncData} {ps : List Str} (F : Fun K x qual st f fd)
    (h : ∀ (kV doc pm : Value) (an : Option Addr) (cdv ct : Value) (us : List Value), us.length = ps.length → bindArgs (PySem.W.fnOf x qual (defArgs st) (defBody st) (defScope st) .none kV doc pm an cdv ct) ⟨us, []⟩ = pure (ps.zip us)) : Binds K fd ps [] := by
  obtain ⟨oc, od, kV, doc, pm, an, cdv, ct, osl, rfl, lk, hcd⟩ := F.ex
  exact .all (h kV doc pm an cdv ct)
theorem fun_mk {x qual : Str} {st : Stmt} {f : Addr} {oc : Value} {od an : Option Addr} {osl : Array (Option Value)} {kV doc pm cdv ct : Value} (l : K.lookup f = some ⟨oc, od, .func (PySem.W.fnOf x qual (defArgs st) (defBody st) (defScope st) .none kV doc pm an cdv ct), osl⟩)
    (c : PySem.W.codeIn K cdv qual = true) (k : PySem.W.keepIn K (.ref f) = true) : Fun K x qual st f (PySem.W.fnOf x qual (defArgs st) (defBody st) (defScope st) .none kV doc pm an cdv ct) := ⟨⟨oc, od, kV, doc, pm, an, cdv, ct, osl, rfl, l, c⟩, k⟩
end
theorem small1000 {n : Nat} (h : n ≤ 1000) : n < sizeLine := Nat.lt_of_le_of_lt h (by decide)
/-! ### expressions in short: the name that stands in the i-th slot -/
section
variable {X : Cx}
theorem pv (i : Nat) {x : Str} {pos : Pos} (hN : X.N[i]? = some x := by rfl) (hv : Vis X.env.scope x := by first | exact Or.inl rfl | exact Or.inr (Or.inl rfl) | exact Or.inr (Or.inr rfl)) (hd : (x == ("__debug__" : Str)) = false := by decide)
    (hcd : (x == ("__classdict__" : Str)) = false := by decide) : PE X (.Name x pos) (tVar i) := pe_var hN hv hd hcd
end
/-! ### tests -/
theorem iteF {A B : Prop} (h : B) : if false = true then A else B := by
  rw [if_neg Bool.false_ne_true]
  exact h
theorem iteT {A B : Prop} (h : A) : if true = true then A else B := by
  rw [if_pos rfl]
  exact h
theorem ite2 {c A B : Prop} [Decidable c] (h1 : c → A) (h2 : ¬ c → B) : if c then A else B := by
  by_cases h : c
  · rw [if_pos h]
    exact h1 h
  · rw [if_neg h]
    exact h2 h
/-! ### heaps -/
/-- all that was tracked is as it was -/
def Same (H H' : Hp) : Prop := ∀ b o, H b = some o → H' b = some o
theorem Same.refl (H : Hp) : Same H H := fun _ _ h => h
theorem Same.trans {H H1 H2 : Hp} (a : Same H H1) (b : Same H1 H2) : Same H H2 := fun c o h => b c o (a c o h)
theorem Same.free {H H' : Hp} (e : Same H H') {l : Addr} (h : H' l = Option.none) : H l = Option.none := by
  cases q : H l with
  | none => rfl
  | some o =>
    rw [e l o q] at h
    cases h
theorem Same.seq {K : PySem.W.Frag} {H H' : Hp} {a : Addr} {xs : List V} (e : Same H H') (h : SqL K H a xs) : SqL K H' a xs := by
  rcases h with (h | ⟨o, h⟩) | h
  · exact .inl (.inl (e _ _ h))
  · exact .inl (.inr ⟨o, e _ _ h⟩)
  · exact .inr h
/-! ### a dict's pairs: keys that differ -/
/-! ### lists -/
theorem nd_ix {α : Type} {l : List α} (hN : l.Nodup) {i j : Nat} {x : α} (a : l[i]? = some x) (b : l[j]? = some x) : i = j := by
  obtain ⟨h1, e1⟩ := List.getElem?_eq_some_iff.mp a
  obtain ⟨h2, e2⟩ := List.getElem?_eq_some_iff.mp b
  exact (List.getElem_inj hN).mp (e1.trans e2.symm)
/-- a new instance and its __init__ leave all that was tracked as it was -/
theorem Same.made {H H1 : Hp} {x dx C : Addr} (nx : H x = Option.none) (nd : H dx = Option.none) (k : ∀ b o, (upd (upd H dx (.own x)) x (.ins C dx [])) b = some o → b ≠ x → H1 b = some o) : Same H H1 := fun b o e =>
  k b o (by rw [upd_ne (ne_of_none e nx), upd_ne (ne_of_none e nd)]; exact e) (ne_of_none e nx)
end L2
section
set_option Elab.async false
set_option linter.all false
set_option maxRecDepth 100000
set_option maxHeartbeats 2000000
namespace L2
open PySem PySem.Spec PyProof.Rows
open PySem.W (WData Codec OpenSpec Well WellAll ReadsW ReadsAllW)
/-! ### an answer as data -/
mutual
/-- x stands for the datum d, lists and tuples all the way -/
inductive Dw (K : PySem.W.Frag) (H : Hp) : V → WData → Prop
  | non : Dw K H .non .none
  | bl (b : Bool) : Dw K H (.bl b) (.bool b)
  | int (i : Int) : Dw K H (.int i) (.int i)
  | str (x : Str) : Dw K H (.str x) (.str x)
  | byt (b : Array UInt8) : Dw K H (.byt b) (.bytes b.toList)
  | lst {a : Addr} {xs : List V} {ds : List WData} : SqL K H a xs → DwAll K H xs ds → Dw K H (.ref a) (.list ds)
  | tup {a : Addr} {xs : List V} {ds : List WData} : SqT K H a xs → DwAll K H xs ds → Dw K H (.ref a) (.tuple ds)
inductive DwAll (K : PySem.W.Frag) (H : Hp) : List V → List WData → Prop
  | nil : DwAll K H [] []
  | cons {v : V} {vs : List V} {d : WData} {ds : List WData} : Dw K H v d → DwAll K H vs ds → DwAll K H (v :: vs) (d :: ds)
end
theorem dw_ints {K : PySem.W.Frag} {H : Hp} : ∀ ns : List Int, DwAll K H (ns.map V.int) (ns.map WData.int)
  | [] => .nil
  | n :: r => .cons (.int n) (dw_ints r)
theorem ints_dw {K : PySem.W.Frag} {H : Hp} : ∀ (ns : List Int) (xs : List V), DwAll K H xs (ns.map WData.int) → xs = ns.map V.int
  | [], xs, h => by
    cases h
    rfl
  | n :: r, xs, h => by
    cases h with
    | cons h1 h2 =>
      cases h1
      rw [ints_dw r _ h2] <;> rfl
section
variable {P : Program} {w : World} {K : PySem.W.Frag} {H : Hp} {h : Heap} {R : PySem.W.WRecords} {cl : Str → Option Addr}
theorem sqL_at {a : Addr} {xs : List V} (hok : HOk P w H h) (KX : K.In h) (q : SqL K H a xs) : ∃ (its : List Value) (o : Obj) (n : Nat), Vals xs its ∧ h.get? a = some o ∧ o.cls = .type "list" ∧ o.data = .seq its.toArray n := by
  rcases q with q | ⟨o, its, n, e, hc, _, hd, _, hv⟩
  · obtain ⟨_, its, n, hv, e⟩ := (show ObjOk P w H h a (.lst xs) from q.ok hok)
    exact ⟨its, _, n, hv, e, rfl, rfl⟩
  · exact ⟨its.toList, o, n, hv, KX _ _ e, hc, by simp [hd]⟩
theorem sqT_at {a : Addr} {xs : List V} (hok : HOk P w H h) (KX : K.In h) (q : SqT K H a xs) : ∃ (its : List Value) (o : Obj) (n : Nat), Vals xs its ∧ h.get? a = some o ∧ o.cls = .type "tuple" ∧ o.data = .seq its.toArray n := by
  rcases q with q | ⟨o, its, n, e, hc, hd, _, hv⟩
  · obtain ⟨_, its, hv, o, e, hc, n, hd⟩ := (show ObjOk P w H h a (.tup xs) from q.ok hok)
    exact ⟨its, o, n, hv, e, hc, hd⟩
  · exact ⟨its.toList, o, n, hv, KX _ _ e, hc, by simp [hd]⟩
mutual
theorem Dw.reads (hok : HOk P w H h) (KX : K.In h) : ∀ (d : WData) (v : V) (u : Value), Dw K H v d → RelV v u → ∃ as, ReadsW R cl h u d as
  | .none, _, _, x, r => by
    cases x
    cases r
    exact ⟨_, ReadsW.none⟩
  | .bool b, _, _, x, r => by
    cases x
    cases r
    exact ⟨_, ReadsW.bool b⟩
  | .int i, _, _, x, r => by
    cases x
    obtain ⟨t, rfl⟩ := r
    exact ⟨_, ReadsW.int i t⟩
  | .str s, _, _, x, r => by
    cases x
    obtain ⟨t, rfl⟩ := r
    exact ⟨_, ReadsW.str s t⟩
  | .bytes b, _, _, x, r => by
    cases x
    obtain ⟨t, rfl⟩ := r
    exact ⟨_, ReadsW.bytes _ t⟩
  | .list ds, _, _, x, r => by
    cases x with
    | lst hs ha =>
      cases r
      obtain ⟨its, o, n, rv, ho, hc, hd⟩ := sqL_at hok KX hs
      obtain ⟨as, hr⟩ := Dw.readsAll hok KX ds _ its ha rv
      exact ⟨_, ReadsW.list ho hc hd hr⟩
  | .tuple ds, _, _, x, r => by
    cases x with
    | tup hs ha =>
      cases r
      obtain ⟨its, o, n, rv, ho, hc, hd⟩ := sqT_at hok KX hs
      obtain ⟨as, hr⟩ := Dw.readsAll hok KX ds _ its ha rv
      exact ⟨_, ReadsW.tuple ho hc hd hr⟩
  | .float _, _, _, x, _ => by cases x
  | .dict _, _, _, x, _ => by cases x
  | .bytearray _, _, _, x, _ => by cases x
  | .set _, _, _, x, _ => by cases x
  | .frozenset _, _, _, x, _ => by cases x
  | .obj _ _, _, _, x, _ => by cases x
theorem Dw.readsAll (hok : HOk P w H h) (KX : K.In h) : ∀ (ds : List WData) (vs : List V) (us : List Value), DwAll K H vs ds → Vals vs us → ∃ as, ReadsAllW R cl h us ds as
  | [], _, _, x, r => by
    cases x
    cases r
    exact ⟨_, ReadsAllW.nil⟩
  | d :: ds, _, _, x, r => by
    cases x with
    | cons h1 h2 =>
      cases r with
      | cons r1 r2 =>
        obtain ⟨as, q1⟩ := Dw.reads hok KX d _ _ h1 r1
        obtain ⟨bs, q2⟩ := Dw.readsAll hok KX ds _ _ h2 r2
        exact ⟨_, ReadsAllW.cons q1 q2⟩
end
end
/-! ### the arguments -/
mutual
/-- data that a codec tells -/
def plW : WData → Bool
  | .none => true
  | .bool _ => true
  | .int _ => true
  | .str _ => true
  | .bytes _ => true
  | .list xs => plWs xs
  | .tuple xs => plWs xs
  | _ => false
def plWs : List WData → Bool
  | [] => true
  | x :: r => plW x && plWs r
end
theorem plWs_map {α : Type} {f : α → WData} (h : ∀ a, plW (f a) = true) : ∀ l : List α, plWs (l.map f) = true
  | [] => rfl
  | x :: r => by
    show (plW (f x) && plWs (r.map f)) = true
    rw [h x, plWs_map h r] <;> rfl
theorem pl_enc : ∀ (c : Codec) (a : c.denote), plW (c.enc a) = true
  | .unit, _ => rfl
  | .bool, _ => rfl
  | .int _ _, _ => rfl
  | .nat _ _, _ => rfl
  | .u8, _ => rfl
  | .bytes _ _, _ => rfl
  | .text _ _ _ _, _ => rfl
  | .list _ _ c, a => plWs_map (fun x => pl_enc c x) a
  | .pair c d, a => by
    show (plW (c.enc a.1) && (plW (d.enc a.2) && true)) = true
    rw [pl_enc c a.1, pl_enc d a.2] <;> rfl
  | .triple c d e, a => by
    show (plW (c.enc a.1) && (plW (d.enc a.2.1) && (plW (e.enc a.2.2) && true))) = true
    rw [pl_enc c a.1, pl_enc d a.2.1, pl_enc e a.2.2] <;> rfl
  | .option c, none => rfl
  | .option c, some x => pl_enc c x
theorem pl_encAll : ∀ (cs : List Codec) (a : Codec.denoteAll cs), plWs (Codec.encAll cs a) = true
  | [], _ => rfl
  | c :: cs, a => by
    show (plW (c.enc a.1) && plWs (Codec.encAll cs a.2)) = true
    rw [pl_enc c a.1, pl_encAll cs a.2] <;> rfl
theorem weight_mem : ∀ {xs : List WData} {d : WData}, d ∈ xs → d.weight ≤ WData.weightAll xs
  | [], d, h => absurd h (by simp)
  | x :: r, d, h => by
    show d.weight ≤ x.weight + 1 + WData.weightAll r
    rcases List.mem_cons.mp h with e | m
    · rw [e]
      omega
    · have z := weight_mem m
      omega
def toV : Value → V
  | .none => .non
  | .bool b => .bl b
  | .int i _ => .int i
  | .str x _ => .str x
  | .bytes b _ => .byt b
  | .ref a => .ref a
  | _ => .non
/-- a value of the arguments, its objects among A -/
def OkU (A : List Addr) : Value → Prop
  | .none => True
  | .bool _ => True
  | .int _ _ => True
  | .str _ _ => True
  | .bytes _ _ => True
  | .ref a => a ∈ A
  | _ => False
theorem OkU.mono {A B : List Addr} (h : ∀ a ∈ A, a ∈ B) : ∀ {u : Value}, OkU A u → OkU B u := fun {u} x => by
  cases u with
  | ref a => exact h a x
  | none => trivial
  | bool b => trivial
  | int i t => trivial
  | str s t => trivial
  | bytes b t => trivial
  | _ => exact False.elim x
theorem relV_toV {A : List Addr} {u : Value} (x : OkU A u) : RelV (toV u) u := by
  cases u with
  | ref a => rfl
  | none => rfl
  | bool b => rfl
  | int i t => exact ⟨t, rfl⟩
  | str s t => exact ⟨t, rfl⟩
  | bytes b t => exact ⟨t, rfl⟩
  | _ => exact False.elim x
theorem vals_toV {A : List Addr} : ∀ {vs : List Value}, (∀ u ∈ vs, OkU A u) → Vals (vs.map toV) vs
  | [], _ => .nil
  | u :: r, h => .cons (relV_toV (h u (List.mem_cons_self ..))) (vals_toV fun x hx => h x (List.mem_cons_of_mem _ hx))
/-- an object of the arguments -/
def ArgOb (h : Heap) (A : List Addr) (a : Addr) : Prop := ∃ vs : List Value, vs.length ≤ sizeLine ∧ (∀ u ∈ vs, OkU A u) ∧
  (h.get? a = some { cls := .type "list", data := .seq vs.toArray } ∨ h.get? a = some { cls := .type "tuple", data := .seq vs.toArray })
theorem ArgOb.mono {h : Heap} {A B : List Addr} {a : Addr} (k : ∀ a ∈ A, a ∈ B) (x : ArgOb h A a) : ArgOb h B a := by
  obtain ⟨vs, h1, h2, h3⟩ := x
  exact ⟨vs, h1, fun u hu => (h2 u hu).mono k, h3⟩
theorem wellAll_len {P : Params} {h : Heap} : ∀ {vs : List Value} {ds : List WData}, WellAll P h vs ds → vs.length = ds.length
  | _, _, .nil => rfl
  | _, _, .cons _ b => by
    show _ + 1 = _ + 1
    rw [wellAll_len b]
theorem well_list {P : Params} {h : Heap} {v : Value} {ds : List WData} (x : Well P h v (.list ds)) : ∃ (a : Addr) (vs : List Value), v = .ref a ∧ h.get? a = some { cls := .type "list", data := .seq vs.toArray } ∧ WellAll P h vs ds := by
  cases x with
  | list ho hall => exact ⟨_, _, rfl, ho, hall⟩
theorem well_tuple {P : Params} {h : Heap} {v : Value} {ds : List WData} (x : Well P h v (.tuple ds)) : ∃ (a : Addr) (vs : List Value), v = .ref a ∧ h.get? a = some { cls := .type "tuple", data := .seq vs.toArray } ∧ WellAll P h vs ds := by
  cases x with
  | tuple ho hall => exact ⟨_, _, rfl, ho, hall⟩
theorem well_cons {P : Params} {h : Heap} {us : List Value} {d : WData} {ds : List WData} (x : WellAll P h us (d :: ds)) : ∃ (v : Value) (vs : List Value), us = v :: vs ∧ Well P h v d ∧ WellAll P h vs ds := by
  cases x with
  | cons a b => exact ⟨_, _, rfl, a, b⟩
theorem line_of {n : Nat} (h : n ≤ 1048576) : n ≤ sizeLine := Nat.le_trans h (by decide)
section
variable {P : Params} {h : Heap}
mutual
theorem area_one : ∀ (d : WData) (v : Value), Well P h v d → plW d = true → d.weight ≤ 1048576 → ∃ A : List Addr, OkU A v ∧ ∀ a ∈ A, ArgOb h A a
  | .none, _, x, _, _ => by
    cases x
    exact ⟨[], trivial, fun a m => absurd m (by simp)⟩
  | .bool b, _, x, _, _ => by
    cases x
    exact ⟨[], trivial, fun a m => absurd m (by simp)⟩
  | .int i, _, x, _, _ => by
    cases x
    exact ⟨[], trivial, fun a m => absurd m (by simp)⟩
  | .str s, _, x, _, _ => by
    cases x
    exact ⟨[], trivial, fun a m => absurd m (by simp)⟩
  | .bytes b, _, x, _, _ => by
    cases x
    exact ⟨[], trivial, fun a m => absurd m (by simp)⟩
  | .list ds, _, x, p, z => by
    obtain ⟨a, vs, rfl, ho, hall⟩ := well_list x
    have z2 : WData.weightAll ds ≤ 1048576 := z
    obtain ⟨A, h1, h2⟩ := area_all ds _ hall p fun d hd => Nat.le_trans (weight_mem hd) z2
    have k : ∀ b ∈ A, b ∈ a :: A := fun b hb => List.mem_cons_of_mem _ hb
    refine ⟨a :: A, List.mem_cons_self .., fun b hb => ?_⟩
    rcases List.mem_cons.mp hb with e | m
    · rw [e]
      exact ⟨vs, line_of (by rw [wellAll_len hall]; exact Nat.le_trans (PySem.W.length_le_weightAllW ds) z2), fun u hu => (h1 u hu).mono k, .inl ho⟩
    · exact (h2 b m).mono k
  | .tuple ds, _, x, p, z => by
    obtain ⟨a, vs, rfl, ho, hall⟩ := well_tuple x
    have z2 : WData.weightAll ds ≤ 1048576 := z
    obtain ⟨A, h1, h2⟩ := area_all ds _ hall p fun d hd => Nat.le_trans (weight_mem hd) z2
    have k : ∀ b ∈ A, b ∈ a :: A := fun b hb => List.mem_cons_of_mem _ hb
    refine ⟨a :: A, List.mem_cons_self .., fun b hb => ?_⟩
    rcases List.mem_cons.mp hb with e | m
    · rw [e]
      exact ⟨vs, line_of (by rw [wellAll_len hall]; exact Nat.le_trans (PySem.W.length_le_weightAllW ds) z2), fun u hu => (h1 u hu).mono k, .inr ho⟩
    · exact (h2 b m).mono k
  | .float _, _, _, p, _ => Bool.noConfusion (show false = true from p)
  | .dict _, _, _, p, _ => Bool.noConfusion (show false = true from p)
  | .bytearray _, _, _, p, _ => Bool.noConfusion (show false = true from p)
  | .set _, _, _, p, _ => Bool.noConfusion (show false = true from p)
  | .frozenset _, _, _, p, _ => Bool.noConfusion (show false = true from p)
  | .obj _ _, _, _, p, _ => Bool.noConfusion (show false = true from p)
theorem area_all : ∀ (ds : List WData) (vs : List Value), WellAll P h vs ds → plWs ds = true → (∀ d ∈ ds, d.weight ≤ 1048576) → ∃ A : List Addr, (∀ u ∈ vs, OkU A u) ∧ ∀ a ∈ A, ArgOb h A a
  | [], _, x, _, _ => by
    cases x
    exact ⟨[], fun u m => absurd m (by simp), fun a m => absurd m (by simp)⟩
  | d :: ds, _, x, p, z => by
    obtain ⟨v, vs, rfl, x1, x2⟩ := well_cons x
    have q : plW d = true ∧ plWs ds = true := Bool.and_eq_true_iff.mp p
    obtain ⟨A, a1, a2⟩ := area_one d v x1 q.1 (z d (List.mem_cons_self ..))
    obtain ⟨B, b1, b2⟩ := area_all ds vs x2 q.2 fun e he => z e (List.mem_cons_of_mem _ he)
    have kA : ∀ b ∈ A, b ∈ A ++ B := fun b hb => List.mem_append.mpr (.inl hb)
    have kB : ∀ b ∈ B, b ∈ A ++ B := fun b hb => List.mem_append.mpr (.inr hb)
    refine ⟨A ++ B, fun u hu => ?_, fun b hb => ?_⟩
    · rcases List.mem_cons.mp hu with e | m
      · rw [e]
        exact a1.mono kA
      · exact (b1 u m).mono kB
    · rcases List.mem_append.mp hb with m | m
      · exact (a2 b m).mono kA
      · exact (b2 b m).mono kB
end
end
/-- what is tracked of an argument's object -/
def hoOf (o : Obj) : Option HO := match o.data with
  | .seq vs _ => if (o.cls == Value.type "list") = true then some (.frz o (.lst (vs.toList.map toV))) else some (.frz o (.tup (vs.toList.map toV)))
  | _ => none
def argH (K : PySem.W.Frag) (h : Heap) (A : List Addr) : Hp := fun b => if b ∈ A then (if (K.lookup b).isNone = true then (h.get? b).bind hoOf else none) else none
/-- nothing is tracked but what is known to the object -/
def OnlyF (H : Hp) : Prop := ∀ b, H b = none ∨ ∃ o u, H b = some (.frz o u)
theorem hoOf_lst (vs : List Value) : hoOf { cls := .type "list", data := .seq vs.toArray } = some (.frz { cls := .type "list", data := .seq vs.toArray } (.lst (vs.map toV))) := by
  show (if (Value.type "list" == Value.type "list") = true then some (HO.frz { cls := .type "list", data := .seq vs.toArray } (.lst (vs.toArray.toList.map toV))) else some (HO.frz { cls := .type "list", data := .seq vs.toArray } (.tup (vs.toArray.toList.map toV)))) = _
  rw [if_pos (beq_self_eq_true _)]
theorem hoOf_tup (vs : List Value) : hoOf { cls := .type "tuple", data := .seq vs.toArray } = some (.frz { cls := .type "tuple", data := .seq vs.toArray } (.tup (vs.map toV))) := by
  show (if (Value.type "tuple" == Value.type "list") = true then some (HO.frz { cls := .type "tuple", data := .seq vs.toArray } (.lst (vs.toArray.toList.map toV))) else some (HO.frz { cls := .type "tuple", data := .seq vs.toArray } (.tup (vs.toArray.toList.map toV)))) = _
  rw [if_neg (by decide)]
section
variable {P : Program} {w : World} {K : PySem.W.Frag} {h : Heap} {A : List Addr}
theorem argH_at {b : Addr} {o : Obj} (hb : b ∈ A) (hk : K.lookup b = none) (e : h.get? b = some o) : argH K h A b = hoOf o := by
  unfold argH
  rw [if_pos hb, hk, if_pos (show (none : Option Obj).isNone = true from rfl), e] <;> rfl
theorem of_argH {b : Addr} {u : HO} (q : argH K h A b = some u) : b ∈ A ∧ K.lookup b = none := by
  unfold argH at q
  by_cases hb : b ∈ A
  · rw [if_pos hb] at q
    cases hk : K.lookup b with
    | none => exact ⟨hb, rfl⟩
    | some o =>
      rw [hk, if_neg (by simp)] at q
      cases q
  · rw [if_neg hb] at q
    cases q
/-- what stands tracked -/
theorem argH_is (ar : ∀ a ∈ A, ArgOb h A a) {b : Addr} {u : HO} (q : argH K h A b = some u) : K.lookup b = none ∧ ∃ vs : List Value, vs.length ≤ sizeLine ∧ (∀ u ∈ vs, OkU A u) ∧
    ((h.get? b = some { cls := .type "list", data := .seq vs.toArray } ∧ u = .frz { cls := .type "list", data := .seq vs.toArray } (.lst (vs.map toV))) ∨
     (h.get? b = some { cls := .type "tuple", data := .seq vs.toArray } ∧ u = .frz { cls := .type "tuple", data := .seq vs.toArray } (.tup (vs.map toV)))) := by
  obtain ⟨hb, hk⟩ := of_argH q
  obtain ⟨vs, h1, h2, h3⟩ := ar b hb
  refine ⟨hk, vs, h1, h2, ?_⟩
  rcases h3 with e | e
  · rw [argH_at hb hk e, hoOf_lst] at q
    exact .inl ⟨e, (Option.some.inj q).symm⟩
  · rw [argH_at hb hk e, hoOf_tup] at q
    exact .inr ⟨e, (Option.some.inj q).symm⟩
theorem argH_only (ar : ∀ a ∈ A, ArgOb h A a) : OnlyF (argH K h A) := fun b => by
  cases q : argH K h A b with
  | none => exact .inl rfl
  | some u =>
    obtain ⟨_, vs, _, _, ⟨_, e⟩ | ⟨_, e⟩⟩ := argH_is ar q
    · exact .inr ⟨_, _, by rw [e]⟩
    · exact .inr ⟨_, _, by rw [e]⟩
theorem argH_ok (ar : ∀ a ∈ A, ArgOb h A a) : HOk P w (argH K h A) h := fun b u q => by
  obtain ⟨_, vs, h1, h2, ⟨e, rfl⟩ | ⟨e, rfl⟩⟩ := argH_is ar q
  · exact ⟨e, by rw [List.length_map]; exact h1, vs, _, vals_toV h2, e⟩
  · exact ⟨e, by rw [List.length_map]; exact h1, vs, vals_toV h2, _, e, rfl, _, rfl⟩
theorem seq_inj {c c' : Value} {vs us : List Value} (e : (some { cls := c, data := .seq vs.toArray } : Option Obj) = some { cls := c', data := .seq us.toArray }) : c = c' ∧ vs = us := by
  have e1 := Option.some.inj e
  have e2 : c = c' := congrArg Obj.cls e1
  have e3 : Data.seq vs.toArray = Data.seq us.toArray := congrArg Obj.data e1
  injection e3 with e4
  refine ⟨e2, ?_⟩
  have e5 := congrArg Array.toList e4
  simpa using e5
/-- a list argument -/
theorem argL (KX : K.In h) (ar : ∀ a ∈ A, ArgOb h A a) {a : Addr} {vs : List Value} (ha : a ∈ A) (e : h.get? a = some { cls := .type "list", data := .seq vs.toArray }) : (∀ u ∈ vs, OkU A u) ∧ SqL K (argH K h A) a (vs.map toV) := by
  obtain ⟨us, h1, h2, h3⟩ := ar a ha
  have hu : us = vs := by
    rcases h3 with q | q
    · rw [e] at q
      exact (seq_inj q).2.symm
    · rw [e] at q
      exact absurd (Value.type.inj (seq_inj q).1) (by decide)
  subst hu
  refine ⟨h2, ?_⟩
  cases hk : K.lookup a with
  | none => exact .inl (.inr ⟨_, by rw [argH_at ha hk e, hoOf_lst]⟩)
  | some o =>
    have e2 := KX a o hk
    rw [e] at e2
    obtain rfl := Option.some.inj e2
    exact .inr ⟨_, us.toArray, _, hk, rfl, rfl, rfl, by rw [List.size_toArray]; exact h1, by simpa using vals_toV h2⟩
theorem argT (KX : K.In h) (ar : ∀ a ∈ A, ArgOb h A a) {a : Addr} {vs : List Value} (ha : a ∈ A) (e : h.get? a = some { cls := .type "tuple", data := .seq vs.toArray }) : (∀ u ∈ vs, OkU A u) ∧ SqT K (argH K h A) a (vs.map toV) := by
  obtain ⟨us, h1, h2, h3⟩ := ar a ha
  have hu : us = vs := by
    rcases h3 with q | q
    · rw [e] at q
      exact absurd (Value.type.inj (seq_inj q).1) (by decide)
    · rw [e] at q
      exact (seq_inj q).2.symm
  subst hu
  refine ⟨h2, ?_⟩
  cases hk : K.lookup a with
  | none => exact .inl (.inr ⟨_, by rw [argH_at ha hk e, hoOf_tup]⟩)
  | some o =>
    have e2 := KX a o hk
    rw [e] at e2
    obtain rfl := Option.some.inj e2
    exact .inr ⟨_, us.toArray, _, hk, rfl, rfl, by rw [List.size_toArray]; exact h1, by simpa using vals_toV h2⟩
mutual
theorem dw_one {Pm : Params} (KX : K.In h) (ar : ∀ a ∈ A, ArgOb h A a) : ∀ (d : WData) (v : Value), Well Pm h v d → plW d = true → OkU A v → Dw K (argH K h A) (toV v) d
  | .none, _, x, _, _ => by
    cases x
    exact .non
  | .bool b, _, x, _, _ => by
    cases x
    exact .bl b
  | .int i, _, x, _, _ => by
    cases x
    exact .int i
  | .str s, _, x, _, _ => by
    cases x
    exact .str s
  | .bytes b, _, x, _, _ => by
    cases x
    have z := Dw.byt (K := K) (H := argH K h A) b.toArray
    exact z
  | .list ds, _, x, p, hu => by
    obtain ⟨a, vs, rfl, ho, hall⟩ := well_list x
    obtain ⟨h2, hs⟩ := argL KX ar hu ho
    exact .lst hs (dw_all KX ar ds _ hall p h2)
  | .tuple ds, _, x, p, hu => by
    obtain ⟨a, vs, rfl, ho, hall⟩ := well_tuple x
    obtain ⟨h2, hs⟩ := argT KX ar hu ho
    exact .tup hs (dw_all KX ar ds _ hall p h2)
  | .float _, _, _, p, _ => Bool.noConfusion (show false = true from p)
  | .dict _, _, _, p, _ => Bool.noConfusion (show false = true from p)
  | .bytearray _, _, _, p, _ => Bool.noConfusion (show false = true from p)
  | .set _, _, _, p, _ => Bool.noConfusion (show false = true from p)
  | .frozenset _, _, _, p, _ => Bool.noConfusion (show false = true from p)
  | .obj _ _, _, _, p, _ => Bool.noConfusion (show false = true from p)
theorem dw_all {Pm : Params} (KX : K.In h) (ar : ∀ a ∈ A, ArgOb h A a) : ∀ (ds : List WData) (vs : List Value), WellAll Pm h vs ds → plWs ds = true → (∀ u ∈ vs, OkU A u) → DwAll K (argH K h A) (vs.map toV) ds
  | [], _, x, _, _ => by
    cases x
    exact .nil
  | d :: ds, _, x, p, hu => by
    obtain ⟨v, vs, rfl, x1, x2⟩ := well_cons x
    have q : plW d = true ∧ plWs ds = true := Bool.and_eq_true_iff.mp p
    exact .cons (dw_one KX ar d v x1 q.1 (hu _ (List.mem_cons_self ..))) (dw_all KX ar ds vs x2 q.2 fun u m => hu u (List.mem_cons_of_mem _ m))
end
end
/-! ### the call -/
theorem spec_call {P : Program} {w : World} {K : PySem.W.Frag} {mg mb : Str → Option Value} {CX : CXT} {k : Nat} {fa : Addr} {fd : FuncData} {ps : List Str} {sp : Sp} {s₁ : Shared} {vals : List Value} {ds : List WData} {R : PySem.W.WRecords} {cl : Str → Option Addr} {d0 : WData}
    (KX : K.In s₁.heap) (hns : s₁.heap.Ns mainGlobals mg) (hb : s₁.heap.Ns builtinsNs mb) (hbb : ∀ x : Str, x ≠ "__name__" → mb x = bootBuiltins x) (hlim : s₁.heap.NoLimit) (hg : s₁.gens = #[])
    (hwl : WellAll w.params s₁.heap vals ds) (hpl : plWs ds = true) (hwt : ∀ d ∈ ds, d.weight ≤ 1048576) (hr : Room k callerA)
    (F : ∀ base : Heap, K.In base → base.Ns mainGlobals mg → FnOk P w K mg base CX k fa fd ps sp) (hbind : ∀ (s : Shared) (us : List Value), us.length = ps.length → BindsTo s fd ⟨us, []⟩ (ps.zip us)) (hlen : ds.length = ps.length)
    (hsp : ∀ (H : Hp) (xs : List V), OnlyF H → DwAll K H xs ds → sp xs H (fun v H' => Dw K H' v d0) fun _ _ _ => False)
    (hCX : ∀ H e s', CX [] H s₁ (fun _ _ _ => False) e s' → False) :
    codeAny (model P w) callerA (.call (.ref fa) ⟨vals, []⟩) (fun r s' => ∃ u as, r = .ok (.ret u) ∧ ReadsW R cl s'.heap u d0 as ∧ OldK s₁.heap s'.heap ∧ s'.os = s₁.os ∧ AllBare s'.gens) s₁ := by
  obtain ⟨A, ho, ar⟩ := area_all ds vals hwl hpl hwt
  have hO : OnlyF (argH K s₁.heap A) := argH_only ar
  have hok : HOk P w (argH K s₁.heap A) s₁.heap := argH_ok ar
  have hS := dw_all KX ar ds vals hwl hpl ho
  have hV := vals_toV ho
  have hK : ∀ b u, argH K s₁.heap A b = some u → K.lookup b = none := fun b u q => (argH_is ar q).1
  have noA : ∀ {b : Addr} {o : Obj} {es : Array DictEntry} {ep : Nat}, s₁.heap.get? b = some o → o.data = .dict es ep → argH K s₁.heap A b = none := fun {b o es ep} e d => by
    cases q : argH K s₁.heap A b with
    | none => rfl
    | some u =>
      obtain ⟨_, vs, _, _, ⟨e2, _⟩ | ⟨e2, _⟩⟩ := argH_is ar q
      · rw [e2] at e
        cases e
        have d' : Data.seq vs.toArray _ = Data.dict es ep := d
        cases d'
      · rw [e2] at e
        cases e
        have d' : Data.seq vs.toArray _ = Data.dict es ep := d
        cases d'
  generalize argH K s₁.heap A = H at hO hok hS hK noA
  have base_of : ∀ {b : Addr} {o : Obj}, s₁.heap.get? b = some o → H b = none → (hidT s₁.heap H).get? b = some o := fun e n => hidT_get e n
  have nsK : ∀ {b : Addr} {m : Str → Option Value}, s₁.heap.Ns b m → (hidT s₁.heap H).Ns b m := fun {b m} ⟨o, es, ep, e, d, r⟩ => ⟨o, es, ep, base_of e (noA e d), d, r⟩
  have nK : ∀ b o, K.lookup b = some o → H b = none := fun b o e => by
    cases q : H b with
    | none => rfl
    | some u =>
      rw [hK b u q] at e
      cases e
  have hKb : K.In (hidT s₁.heap H) := fun b o e => base_of (KX b o e) (nK b o e)
  have hM : Mod K mg (hidT s₁.heap H) := ⟨hKb, nsK hns, ⟨mb, nsK hb, hbb⟩, let ⟨mc, h1, h2⟩ := hlim; ⟨mc, nsK h1, h2⟩⟩
  have e0 : Env0 P w K mg (hidT s₁.heap H) callerA [] s₁ H := ⟨rfl, hM, fun b o e => of_hidT e, Nat.le_of_eq (hidT_size _ _), trivial, fun b hb => absurd (show b ∈ ([] : List Addr) from hb) (by simp), hok, .of_eq hg⟩
  have hl : vals.length = ps.length := by rw [wellAll_len hwl]; exact hlen
  refine codeAny_mono ((F _ hKb (nsK hns)).run callerA [] s₁ H ⟨vals, []⟩ vals (vals.map toV) _ _ hr e0 (hbind s₁ vals hl) hV (hsp H _ hO hS)) fun r s' x => ?_
  cases r with
  | error e => exact (hCX H e s' x).elim
  | ok fl =>
    cases fl with
    | next => exact False.elim x
    | brk => exact False.elim x
    | cont => exact False.elim x
    | ret u =>
      obtain ⟨v, H', os, bare, un, hok', r', q⟩ := x
      have kept : ∀ b o, s₁.heap.get? b = some o → s'.heap.get? b = some o := fun b o e => by
        cases q2 : H b with
        | none => exact un.keep b o e q2 (by intro z; exact absurd (show b ∈ ([] : List Addr) from z) (by simp)) (by simp)
        | some u2 =>
          rcases hO b with z | ⟨ob, u3, z⟩
          · rw [q2] at z
            cases z
          · have z2 := un.frzs b ob _ z
            obtain ⟨e1, _⟩ := hok b _ z
            obtain ⟨e2, _⟩ := hok' b _ z2
            rw [e] at e1
            cases e1
            exact e2
      have KX' : K.In s'.heap := fun b o e => kept b o (KX b o e)
      obtain ⟨as, hrd⟩ := Dw.reads (R := R) (cl := cl) hok' KX' d0 v u q r'
      exact ⟨u, as, rfl, hrd, OldK.of_keep kept, os, bare⟩
/-! ### the row -/
theorem layable_weight {ds : List WData} (h : WData.layableAll ds = true) : ∀ d ∈ ds, d.weight ≤ 1048576 := fun d hd =>
  (PySem.W.layableW_iff.mp (List.all_eq_true.mp h d hd)).2.2
theorem encAll_len : ∀ (cs : List Codec) (a : Codec.denoteAll cs), (Codec.encAll cs a).length = cs.length
  | [], _ => rfl
  | c :: cs, a => by
    show (Codec.encAll cs a.2).length + 1 = cs.length + 1
    rw [encAll_len cs a.2]
/-- the goal that k_headS leaves (case hc), from the promise of the row's def: whatever the arguments that the codecs let and the row asks for, the def gives what stands for enc (f ..) -/
theorem walk_spec {r : OpenSpec} {k : Nat} {q : Program} {loose : List Str} {XP : (Str → Option Value) → Heap → Prop} {YP : World → Heap → Prop} {d : DefRec} {K : Params → PySem.W.Frag} {CX : World → CXT} {ps : List Str} {sp : World → Sp}
    (hwell : r.wellSaid = true) (hdf : d.params.defaults = []) (hlen : r.args.length = ps.length) (hr : Room k callerA)
    (hY : ∀ (w : World) (h : Heap), YP w h → (K w.params).In h)
    (F : ∀ (w : World) (mg : Str → Option Value) (fa : Addr) (h : Heap), YP w h → (K w.params).In h → h.Ns mainGlobals mg → mg d.name = some (.ref fa) →
      ∃ fd : FuncData, (∀ (s : Shared) (us : List Value), us.length = ps.length → BindsTo s fd ⟨us, []⟩ (ps.zip us)) ∧
        ∀ base : Heap, (K w.params).In base → base.Ns mainGlobals mg → FnOk r.prog w (K w.params) mg base (CX w) k fa fd ps (sp w))
    (hsp : ∀ (w : World) (H : Hp) (xs : List V) (a : Codec.denoteAll r.args), OnlyF H → Codec.withinAll r.args a = true → Codec.app r.args r.asked a = true → DwAll (K w.params) H xs (Codec.encAll r.args a) →
      sp w xs H (fun v H' => Dw (K w.params) H' v (r.ret.enc (Codec.app r.args r.f a))) fun _ _ _ => False)
    (hCX : ∀ (w : World) (H : Hp) (s : Shared) (e : Value) (s' : Shared), CX w [] H s (fun _ _ _ => False) e s' → False) :
    PySem.W.WalkOS q loose XP YP r d [] (fun f vs => PySem.call f vs) := by
  intro w s_0 s₁ mg mb G Y fa o pm cd doc dV kV ho hd hcd hD hmg hg args vals as hpre hlay hrd hwl hlo
  obtain ⟨a, e1, e2⟩ := PySem.W.os_pre_some hpre
  obtain ⟨e3, hwi⟩ := Codec.encAll_of_decAll r.args args a e1
  subst e3
  have KX := hY w _ Y
  obtain ⟨fd, hb, hF⟩ := F w mg fa _ Y KX G.T.g hmg
  refine PySem.W.enter_call (codeAny_mono (spec_call (R := []) (cl := classAt s_0.heap) (d0 := r.ret.enc (Codec.app r.args r.f a)) KX G.T.g G.T.b G.T.builtins G.T.nolimit hg hwl (pl_encAll _ _) (layable_weight hlay) hr hF hb (by rw [encAll_len]; exact hlen)
    (fun H xs hO hS => hsp w H xs a hO hwi e2 hS) fun H e s' => hCX w H s₁ e s') fun r' s' hq => ?_)
  obtain ⟨u, as', rfl, h1, h2, h3, h4⟩ := hq
  exact ⟨.inl ⟨u, _, as', rfl, fun _ => rfl, h1, (OpenSpec.post_iff hwell hwi _ _).mpr rfl, fun z => Bool.noConfusion (show false = true from z)⟩, h2, h3, h4⟩
/-- the same where the promise hangs on the written part alone -/
theorem walk_specK {r : OpenSpec} {k : Nat} {q : Program} {loose : List Str} {XP : (Str → Option Value) → Heap → Prop} {YP : World → Heap → Prop} {d : DefRec} {K : Params → PySem.W.Frag} {CX : CXT} {ps : List Str} {sp : PySem.W.Frag → Sp}
    (hwell : r.wellSaid = true) (hdf : d.params.defaults = []) (hlen : r.args.length = ps.length) (hr : Room k callerA)
    (hY : ∀ (w : World) (h : Heap), YP w h → (K w.params).In h)
    (F : ∀ (w : World) (mg : Str → Option Value) (fa : Addr) (h : Heap), YP w h → (K w.params).In h → h.Ns mainGlobals mg → mg d.name = some (.ref fa) →
      ∃ fd : FuncData, (∀ (s : Shared) (us : List Value), us.length = ps.length → BindsTo s fd ⟨us, []⟩ (ps.zip us)) ∧
        ∀ base : Heap, (K w.params).In base → base.Ns mainGlobals mg → FnOk r.prog w (K w.params) mg base CX k fa fd ps (sp (K w.params)))
    (hsp : ∀ (K : PySem.W.Frag) (H : Hp) (xs : List V) (a : Codec.denoteAll r.args), OnlyF H → Codec.withinAll r.args a = true → Codec.app r.args r.asked a = true → DwAll K H xs (Codec.encAll r.args a) →
      sp K xs H (fun v H' => Dw K H' v (r.ret.enc (Codec.app r.args r.f a))) fun _ _ _ => False)
    (hCX : ∀ (H : Hp) (s : Shared) (e : Value) (s' : Shared), CX [] H s (fun _ _ _ => False) e s' → False) :
    PySem.W.WalkOS q loose XP YP r d [] (fun f vs => PySem.call f vs) :=
  walk_spec (K := K) (CX := fun _ => CX) (sp := fun w => sp (K w.params)) hwell hdf hlen hr hY F (fun w H xs a h1 h2 h3 h4 => hsp (K w.params) H xs a h1 h2 h3 h4) fun _ H s e s' => hCX H s e s'
end L2
-- rests on (row put in by the clerk, for the bench that shows a file only what it spells): KE.SpHead KE.OsShapes
end
set_option Elab.async false
namespace Ms
open Km413
/-! ### filters over places of a list -/
theorem range_filter_map {α β : Type} (f : α → Bool) (g : α → β) : ∀ (l : List α) (F : Nat → Bool) (G : Nat → β), (∀ p x, l[p]? = some x → F p = f x) → (∀ p x, l[p]? = some x → G p = g x) →
    ((List.range l.length).filter F).map G = (l.filter f).map g
  | [], _, _, _, _ => rfl
  | a :: r, F, G, hF, hG => by
    have ih := range_filter_map f g r (fun p => F (p + 1)) (fun p => G (p + 1)) (fun p x h => hF (p + 1) x h) (fun p x h => hG (p + 1) x h)
    have e1 : List.range (a :: r).length = 0 :: (List.range r.length).map (· + 1) := by
      rw [List.length_cons, List.range_succ_eq_map]
    have e2 : ((((List.range r.length).map (· + 1)).filter F).map G) = (r.filter f).map g := by
      rw [List.filter_map, List.map_map, ← ih]
      rfl
    have h0 : F 0 = f a := hF 0 a rfl
    have g0 : G 0 = g a := hG 0 a rfl
    rw [e1, List.filter_cons, List.filter_cons, h0]
    cases h : f a with
    | true => rw [if_pos rfl, if_pos rfl, List.map_cons, List.map_cons, e2, g0]
    | false => rw [if_neg (by decide), if_neg (by decide), e2]
theorem range_filter_len {α : Type} (l : List α) (f : α → Bool) (F : Nat → Bool) (hF : ∀ p x, l[p]? = some x → F p = f x) :
    ((List.range l.length).filter F).length = (l.filter f).length := by
  have h := congrArg List.length (range_filter_map f (fun _ => ()) l F (fun _ => ()) hF (fun _ _ _ => rfl))
  simpa using h
/-! ### sorted falling -/
theorem insert_perm (d : Nat) : ∀ l : List Nat, (Km413.insert d l).Perm (d :: l)
  | [] => List.Perm.refl _
  | e :: l => by
    unfold Km413.insert
    split
    · exact List.Perm.refl _
    · exact ((insert_perm d l).cons e).trans (List.Perm.swap d e l)
theorem insert_sorted (d : Nat) : ∀ l : List Nat, l.Pairwise (· ≥ ·) → (Km413.insert d l).Pairwise (· ≥ ·)
  | [], _ => by simp [Km413.insert]
  | e :: l, h => by
    unfold Km413.insert
    rw [List.pairwise_cons] at h
    split
    · rename_i hle
      rw [List.pairwise_cons, List.pairwise_cons]
      refine ⟨fun x hx => ?_, h⟩
      rcases List.mem_cons.mp hx with rfl | hx
      · exact hle
      · exact Nat.le_trans (h.1 x hx) hle
    · rename_i hlt
      rw [List.pairwise_cons]
      refine ⟨fun x hx => ?_, insert_sorted d l h.2⟩
      rcases List.mem_cons.mp ((insert_perm d l).mem_iff.mp hx) with rfl | hx
      · exact Nat.le_of_lt (Nat.lt_of_not_le hlt)
      · exact h.1 x hx
theorem fold_perm : ∀ (l acc : List Nat), (l.foldl (fun r d => Km413.insert d r) acc).Perm (l ++ acc)
  | [], acc => List.Perm.refl _
  | d :: l, acc => by
    rw [List.foldl_cons]
    refine (fold_perm l _).trans ?_
    refine (List.Perm.append_left l (insert_perm d acc)).trans ?_
    exact List.perm_middle
theorem falling_perm (l : List Nat) : (falling l).Perm l := by
  have h := fold_perm l []
  rw [List.append_nil] at h
  exact h
theorem fold_sorted : ∀ (l acc : List Nat), acc.Pairwise (· ≥ ·) → (l.foldl (fun r d => Km413.insert d r) acc).Pairwise (· ≥ ·)
  | [], _, h => h
  | d :: l, acc, h => by
    rw [List.foldl_cons]
    exact fold_sorted l _ (insert_sorted d acc h)
theorem falling_sorted (l : List Nat) : (falling l).Pairwise (· ≥ ·) := fold_sorted l [] List.Pairwise.nil
theorem falling_length (l : List Nat) : (falling l).length = l.length := (falling_perm l).length_eq
/-- one falling list of the same things -/
theorem sorted_unique {α : Type} {le : α → α → Prop} (anti : ∀ a b, le a b → le b a → a = b) : ∀ {l m : List α}, l.Perm m → l.Pairwise le → m.Pairwise le → l = m
  | [], m, p, _, _ => (List.nil_perm.mp p).symm
  | a :: l, m, p, hl, hm => by
    cases m with
    | nil => exact absurd p.length_eq (by simp)
    | cons b m =>
      rw [List.pairwise_cons] at hl hm
      have e : a = b := by
        rcases List.mem_cons.mp (p.mem_iff.mp (List.mem_cons_self ..)) with h | h
        · exact h
        · rcases List.mem_cons.mp (p.symm.mem_iff.mp (List.mem_cons_self ..)) with h2 | h2
          · exact h2.symm
          · exact anti _ _ (hl.1 b h2) (hm.1 a h)
      subst e
      rw [sorted_unique anti (p.cons_inv) hl.2 hm.2]
theorem insert_map {f : Nat → Nat} (d : Nat) : ∀ l : List Nat, (∀ e ∈ l, (e ≤ d ↔ f e ≤ f d)) → Km413.insert (f d) (l.map f) = (Km413.insert d l).map f
  | [], _ => rfl
  | e :: l, h => by
    have he := h e (List.mem_cons_self ..)
    have ih := insert_map d l fun x hx => h x (List.mem_cons_of_mem _ hx)
    show Km413.insert (f d) (f e :: l.map f) = _
    unfold Km413.insert
    by_cases c : e ≤ d
    · rw [if_pos c, if_pos (he.mp c)]; rfl
    · rw [if_neg c, if_neg (fun q => c (he.mpr q)), ih]; rfl
theorem fold_map {f : Nat → Nat} : ∀ (l acc : List Nat), (∀ d ∈ l ++ acc, ∀ e ∈ l ++ acc, (e ≤ d ↔ f e ≤ f d)) →
    (l.map f).foldl (fun r d => Km413.insert d r) (acc.map f) = (l.foldl (fun r d => Km413.insert d r) acc).map f
  | [], acc, _ => rfl
  | d :: l, acc, h => by
    rw [List.map_cons, List.foldl_cons, List.foldl_cons, insert_map d acc fun e he => h d (by simp) e (by simp [he])]
    refine fold_map l _ fun x hx y hy => ?_
    have sub : ∀ z, z ∈ l ++ Km413.insert d acc → z ∈ (d :: l) ++ acc := fun z hz => by
      rcases List.mem_append.mp hz with hz | hz
      · simp [hz]
      · rcases List.mem_cons.mp ((insert_perm d acc).mem_iff.mp hz) with rfl | hz
        · simp
        · simp [hz]
    exact h x (sub x hx) y (sub y hy)
theorem falling_map {f : Nat → Nat} (l : List Nat) (h : ∀ d ∈ l, ∀ e ∈ l, (e ≤ d ↔ f e ≤ f d)) : falling (l.map f) = (falling l).map f :=
  fold_map l [] fun d hd e he => h d (by simpa using hd) e (by simpa using he)
/-- of a falling list those above a bound come first -/
theorem falling_split (c : Nat) : ∀ l : List Nat, l.Pairwise (· ≥ ·) → l = l.filter (fun x => decide (c < x)) ++ l.filter (fun x => decide (x ≤ c))
  | [], _ => rfl
  | a :: l, h => by
    rw [List.pairwise_cons] at h
    have ih := falling_split c l h.2
    by_cases q : c < a
    · rw [List.filter_cons, if_pos (decide_eq_true q), List.filter_cons, if_neg (by simpa using q), List.cons_append, ← ih]
    · have e1 : l.filter (fun x => decide (c < x)) = [] := by
        rw [List.filter_eq_nil_iff]
        intro x hx
        have := h.1 x hx
        simp; omega
      rw [List.filter_cons, if_neg (by simpa using q), e1, List.filter_cons, if_pos (by simp; omega), List.nil_append]
      rw [e1, List.nil_append] at ih
      rw [← ih]
/-! ### groups -/
theorem ceil_step {n m : Nat} (hn : 1 ≤ n) (hm : 1 ≤ m) : (m + n - 1) / n = (m - n + n - 1) / n + 1 := by
  by_cases h : n ≤ m
  · have e : m + n - 1 = (m - n + n - 1) + n := by omega
    rw [e, Nat.add_div_right _ (by omega)]
  · have e1 : m - n + n - 1 = n - 1 := by omega
    have e2 : (n - 1) / n = 0 := Nat.div_eq_of_lt (by omega)
    rw [e1, e2]
    have e3 : m + n - 1 = (m - 1) + n := by omega
    rw [e3, Nat.add_div_right _ (by omega), Nat.div_eq_of_lt (by omega)]
def cuts (n : Nat) (l : List Nat) : List (List Nat) := (List.range ((l.length + n - 1) / n)).map fun i => (l.drop (n * i)).take n
theorem groups_eq {n : Nat} (hn : 1 ≤ n) : ∀ (f : Nat) (l : List Nat), l.length ≤ f → groups n f l = cuts n l
  | 0, l, h => by
    have e : l = [] := List.length_eq_zero_iff.mp (by omega)
    subst e
    unfold groups cuts
    rw [show ((([] : List Nat).length + n - 1) / n) = 0 from Nat.div_eq_of_lt (by simp; omega)]
    rfl
  | f + 1, l, h => by
    unfold groups
    by_cases e : l = []
    · subst e
      rw [if_pos rfl]
      unfold cuts
      rw [show ((([] : List Nat).length + n - 1) / n) = 0 from Nat.div_eq_of_lt (by simp; omega)]
      rfl
    · have hl : 1 ≤ l.length := by
        cases l with
        | nil => exact absurd rfl e
        | cons _ _ => simp
      rw [if_neg e, groups_eq hn f (l.drop n) (by rw [List.length_drop]; omega)]
      unfold cuts
      rw [ceil_step hn hl, List.range_succ_eq_map, List.map_cons, List.map_map, List.length_drop]
      congr 1
      refine List.map_congr_left fun i _ => ?_
      show ((l.drop n).drop (n * i)).take n = (l.drop (n * (i + 1))).take n
      rw [List.drop_drop, Nat.mul_succ, Nat.add_comm]
/-! ### sums -/
theorem fold_add : ∀ (l : List Nat) (a : Nat), l.foldl (· + ·) a = a + l.foldl (· + ·) 0
  | [], a => by simp
  | x :: l, a => by
    rw [List.foldl_cons, List.foldl_cons, fold_add l (a + x), fold_add l (0 + x)]
    omega
theorem sum_cons (x : Nat) (l : List Nat) : Km413.sum (x :: l) = x + Km413.sum l := by
  unfold Km413.sum
  rw [List.foldl_cons, fold_add]
  omega
theorem sum_int : ∀ l : List Nat, ((l.map fun (n : Nat) => (n : Int)).sum) = ((Km413.sum l : Nat) : Int)
  | [] => rfl
  | x :: l => by
    rw [List.map_cons, List.sum_cons, sum_int l, sum_cons]
    exact (Int.natCast_add x _).symm
end Ms
set_option Elab.async false
namespace Ms
open Km413
/-- the number that the program keeps of where a person is -/
def pl (x : Person) : Nat := match x.place with
  | .at_ l => l
  | .cage => 9
/-- what holds of each shaft that a list of calls leads to -/
structure Good (s : Shaft) : Prop where
  r1 : 1 ≤ s.room
  r8 : s.room ≤ 8
  sp1 : 1 ≤ s.speed
  sp2 : s.speed ≤ 1000
  lv : s.levels.length ≤ 5
  dp : ∀ v ∈ s.levels, 1 ≤ v.depth ∧ v.depth ≤ 2000
  inc : s.levels.Pairwise fun a b => a.depth < b.depth
  rt : ∀ v ∈ s.levels, v.rate ≤ 2000 ∧ v.clear ≤ 5000
  ps : s.persons.length ≤ 24
  wh : ∀ x ∈ s.persons, levelIn x ≤ s.levels.length
  sn : ∀ x ∈ s.persons, x.since ≤ s.time
  at_ : s.at_ ≤ s.levels.length
  ab : (s.persons.filter fun x => x.place == .cage).length ≤ s.room
  lk : s.locks.length ≤ 4
  od : ∀ x ∈ s.locks, ¬ (x.1 = true ∧ x.2 = true)
theorem pl_cage (x : Person) (h : levelIn x ≤ 5) : (pl x = 9) ↔ x.place = .cage := by
  unfold pl levelIn at *
  cases q : x.place with
  | cage => simp
  | at_ l => rw [q] at h; simp at h ⊢; omega
theorem pl_at (x : Person) (l : Nat) (h : levelIn x ≤ 5) (hl : l ≤ 5) : (pl x = l) ↔ x.place = .at_ l := by
  unfold pl levelIn at *
  cases q : x.place with
  | cage => simp; omega
  | at_ k => simp
theorem pl_below (x : Person) (h : levelIn x ≤ 5) : (pl x ≠ 9 ∧ 0 < pl x) ↔ levelIn x ≠ 0 := by
  unfold pl levelIn at *
  cases q : x.place with
  | cage => simp
  | at_ k => rw [q] at h; simp at h ⊢; omega
theorem pl_level (x : Person) (h : levelIn x ≠ 0) : pl x = levelIn x := by
  unfold pl levelIn at *
  cases q : x.place with
  | cage => rw [q] at h; simp at h
  | at_ k => rfl
/-- how many are at a place -/
def cnt (s : Shaft) (k : Nat) : Nat := (s.persons.filter fun x => pl x == k).length
/-- the levels of those below -/
def bl (s : Shaft) : List Nat := (s.persons.filter fun x => levelIn x != 0).map levelIn
def bls (s : Shaft) : List Nat := falling (bl s)
theorem Good.wh5 {s : Shaft} (g : Good s) (x : Person) (hx : x ∈ s.persons) : levelIn x ≤ 5 := Nat.le_trans (g.wh x hx) g.lv
theorem aboard_len (s : Shaft) : s.aboard.length = (s.persons.filter fun x => x.place == .cage).length := range_filter_len _ _ _ fun p x h => by simp only [h]
theorem onLevel_len (s : Shaft) (l : Nat) : (s.onLevel l).length = (s.persons.filter fun x => x.place == .at_ l).length := range_filter_len _ _ _ fun p x h => by simp only [h]
theorem below_len (s : Shaft) : s.below.length = (s.persons.filter fun x => levelIn x != 0).length := range_filter_len _ _ _ fun p x h => by simp only [h]
theorem cnt_cage {s : Shaft} (g : Good s) : cnt s 9 = s.aboard.length := by
  rw [aboard_len]
  unfold cnt
  congr 1
  refine List.filter_congr fun x hx => ?_
  have h := pl_cage x (g.wh5 x hx)
  rw [Bool.eq_iff_iff, beq_iff_eq, beq_iff_eq]
  exact h
theorem cnt_at {s : Shaft} (g : Good s) {l : Nat} (hl : l ≤ 5) : cnt s l = (s.onLevel l).length := by
  rw [onLevel_len]
  unfold cnt
  congr 1
  refine List.filter_congr fun x hx => ?_
  rw [Bool.eq_iff_iff, beq_iff_eq, beq_iff_eq]
  exact pl_at x l (g.wh5 x hx) hl
theorem Good.aboard {s : Shaft} (g : Good s) : s.aboard.length ≤ s.room := by rw [aboard_len]; exact g.ab
theorem load_eq {s : Shaft} (g : Good s) : s.load = 1000 + 80 * cnt s 9 + s.tub := by rw [cnt_cage g]; rfl
theorem below_nil (s : Shaft) : s.below = [] ↔ bl s = [] := by
  have h := below_len s
  rw [← List.length_eq_zero_iff, h, ← List.length_eq_zero_iff]
  unfold bl
  rw [List.length_map]
/-! ### depths -/
theorem depth_zero (s : Shaft) : s.depth 0 = 0 := by unfold Shaft.depth; rw [if_pos rfl]
theorem depth_get {s : Shaft} {l : Nat} {v : Level} (h : s.levels[l]? = some v) : s.depth (l + 1) = v.depth := by
  unfold Shaft.depth
  rw [if_neg (by omega), show l + 1 - 1 = l from rfl, h]
theorem depth_lt {s : Shaft} (g : Good s) {a b : Nat} (hab : a < b) (hb : b ≤ s.levels.length) : s.depth a < s.depth b := by
  obtain ⟨b, rfl⟩ : ∃ c, b = c + 1 := ⟨b - 1, by omega⟩
  have hb' : b < s.levels.length := by omega
  have eb : s.levels[b]? = some s.levels[b] := List.getElem?_eq_getElem hb'
  rw [depth_get eb]
  cases a with
  | zero =>
    rw [depth_zero]
    exact (g.dp _ (List.getElem_mem hb')).1
  | succ a =>
    have ha' : a < s.levels.length := by omega
    rw [depth_get (List.getElem?_eq_getElem ha')]
    exact List.pairwise_iff_getElem.mp g.inc a b ha' hb' (by omega)
theorem depth_le {s : Shaft} (g : Good s) {a b : Nat} (ha : a ≤ s.levels.length) (hb : b ≤ s.levels.length) : (a ≤ b ↔ s.depth a ≤ s.depth b) := by
  constructor
  · intro h
    rcases Nat.lt_or_eq_of_le h with h | rfl
    · exact Nat.le_of_lt (depth_lt g h hb)
    · exact Nat.le_refl _
  · intro h
    apply Classical.byContradiction
    intro q
    have := depth_lt g (show b < a by omega) ha
    omega
theorem depth_max {s : Shaft} (g : Good s) (l : Nat) : s.depth l ≤ 2000 := by
  unfold Shaft.depth
  split
  · omega
  · split
    · rename_i v h
      exact (g.dp v (List.mem_of_getElem? h)).2
    · omega
theorem bl_mem {s : Shaft} (g : Good s) {l : Nat} (h : l ∈ bl s) : 1 ≤ l ∧ l ≤ s.levels.length := by
  unfold bl at h
  obtain ⟨x, hx, rfl⟩ := List.mem_map.mp h
  obtain ⟨h1, h2⟩ := List.mem_filter.mp hx
  have : levelIn x ≠ 0 := by simpa using h2
  exact ⟨by omega, g.wh x h1⟩
theorem bls_mem {s : Shaft} (g : Good s) {l : Nat} (h : l ∈ bls s) : 1 ≤ l ∧ l ≤ s.levels.length := bl_mem g ((falling_perm _).mem_iff.mp h)
theorem bls_len {s : Shaft} (g : Good s) : (bls s).length ≤ 24 := by
  unfold bls bl
  rw [falling_length, List.length_map]
  exact Nat.le_trans (List.length_filter_le _ _) g.ps
theorem depths_eq {s : Shaft} (g : Good s) : s.depths = (bls s).map s.depth := by
  unfold Shaft.depths
  have e := range_filter_map (fun x => levelIn x != 0) (fun x => s.depth (levelIn x)) s.persons
    (fun p => match s.persons[p]? with | some x => levelIn x != 0 | none => false) (fun p => match s.persons[p]? with | some x => s.depth (levelIn x) | none => 0)
    (fun p x h => by simp only [h]) (fun p x h => by simp only [h])
  refine (congrArg falling (show _ = (bl s).map s.depth from ?_)).trans ?_
  · unfold bl
    rw [List.map_map]
    exact e
  exact falling_map _ fun d hd e he => depth_le g (bl_mem g he).2 (bl_mem g hd).2
/-! ### whom the cage takes, who stays -/
def reached (s : Shaft) : List Nat := (bls s).filter fun l => decide (l ≤ s.at_)
def deeper (s : Shaft) : List Nat := (bls s).filter fun l => decide (s.at_ < l)
def takenL (s : Shaft) : List Nat := (reached s).take (s.room - s.aboard.length)
def leftL (s : Shaft) : List Nat := deeper s ++ (reached s).drop (s.room - s.aboard.length)
theorem reached_zero {s : Shaft} (g : Good s) (h : s.at_ = 0) : reached s = [] := by
  unfold reached
  rw [List.filter_eq_nil_iff]
  intro l hl
  have := (bls_mem g hl).1
  simp; omega
theorem filter_map_depth {s : Shaft} (g : Good s) : s.depths.filter (fun d => decide (d ≤ s.depth s.at_)) = (reached s).map s.depth := by
  rw [depths_eq g, List.filter_map]
  unfold reached
  congr 1
  refine List.filter_congr fun l hl => ?_
  have := depth_le g (bls_mem g hl).2 g.at_
  rw [Bool.eq_iff_iff]
  simp only [Function.comp, decide_eq_true_eq]
  exact this.symm
theorem filter_map_deeper {s : Shaft} (g : Good s) : s.depths.filter (fun d => decide (s.depth s.at_ < d)) = (deeper s).map s.depth := by
  rw [depths_eq g, List.filter_map]
  unfold deeper
  congr 1
  refine List.filter_congr fun l hl => ?_
  have := depth_le g (bls_mem g hl).2 g.at_
  rw [Bool.eq_iff_iff]
  simp only [Function.comp, decide_eq_true_eq]
  omega
theorem taken_eq {s : Shaft} (g : Good s) : s.taken = (takenL s).map s.depth := by
  unfold Shaft.taken takenL
  by_cases h : s.at_ = 0
  · rw [if_pos h, reached_zero g h]; simp
  · rw [if_neg h, filter_map_depth g, List.map_take]
theorem left_eq {s : Shaft} (g : Good s) : s.left = (leftL s).map s.depth := by
  unfold Shaft.left leftL
  rw [filter_map_depth g, filter_map_deeper g, List.map_append]
  by_cases h : s.at_ = 0
  · rw [if_pos h, reached_zero g h]; simp
  · rw [if_neg h, List.map_drop]
/-- as the program cuts it -/
theorem left_cut {s : Shaft} : leftL s = deeper s ++ (bls s).drop ((deeper s).length + (takenL s).length) := by
  have h : bls s = deeper s ++ reached s := falling_split s.at_ _ (falling_sorted _)
  have e : (bls s).drop ((deeper s).length + (takenL s).length) = (reached s).drop (takenL s).length := by
    rw [h, ← List.drop_drop, List.drop_left]
  rw [e]
  unfold leftL takenL
  rw [List.length_take]
  congr 1
  by_cases q : s.room - s.aboard.length ≤ (reached s).length
  · rw [Nat.min_eq_left q]
  · rw [Nat.min_eq_right (by omega), List.drop_eq_nil_of_le (by omega), List.drop_eq_nil_of_le (Nat.le_refl _)]
theorem left_mem {s : Shaft} (g : Good s) {l : Nat} (h : l ∈ leftL s) : 1 ≤ l ∧ l ≤ s.levels.length := by
  unfold leftL at h
  rcases List.mem_append.mp h with h | h
  · exact bls_mem g (List.mem_filter.mp h).1
  · exact bls_mem g (List.mem_filter.mp (List.mem_of_mem_drop h)).1
theorem left_len {s : Shaft} (g : Good s) : (leftL s).length ≤ 24 := by
  rw [left_cut, List.length_append, List.length_drop]
  have h : (deeper s).length ≤ (bls s).length := List.length_filter_le _ _
  have := bls_len g
  omega
/-- the groups by their levels -/
def grp (s : Shaft) : List (List Nat) := cuts s.room (leftL s)
theorem cuts_map (n : Nat) (f : Nat → Nat) (l : List Nat) : cuts n (l.map f) = (cuts n l).map (List.map f) := by
  unfold cuts
  rw [List.length_map, List.map_map]
  refine List.map_congr_left fun i _ => ?_
  show ((l.map f).drop (n * i)).take n = (((l.drop (n * i)).take n).map f)
  rw [List.map_take, List.map_drop]
theorem groups_at {s : Shaft} (g : Good s) : groups s.room PERSONS s.left = (grp s).map (List.map s.depth) := by
  rw [left_eq g, groups_eq g.r1 _ _ (by rw [List.length_map]; exact left_len g), cuts_map]
  rfl
theorem grp_mem {s : Shaft} (g : Good s) {c : List Nat} (h : c ∈ grp s) : ∃ a r, c = a :: r ∧ 1 ≤ a ∧ a ≤ s.levels.length ∧ c.length ≤ 8 := by
  unfold grp cuts at h
  obtain ⟨i, hi, rfl⟩ := List.mem_map.mp h
  have hi' : i < ((leftL s).length + s.room - 1) / s.room := List.mem_range.mp hi
  have hr := g.r1
  have hlt : s.room * i < (leftL s).length := by
    have h1 : (i + 1) * s.room ≤ (leftL s).length + s.room - 1 := (Nat.le_div_iff_mul_le (by omega)).mp hi'
    rw [Nat.add_mul, Nat.mul_comm i] at h1
    omega
  have e : (leftL s).drop (s.room * i) = (leftL s)[s.room * i] :: (leftL s).drop (s.room * i + 1) := List.drop_eq_getElem_cons hlt
  have er : s.room = (s.room - 1) + 1 := by omega
  refine ⟨(leftL s)[s.room * i], ((leftL s).drop (s.room * i + 1)).take (s.room - 1), ?_, ?_, ?_, ?_⟩
  · rw [e]
    generalize (leftL s)[s.room * i] = y
    generalize (leftL s).drop (s.room * i + 1) = r
    have q : List.take ((s.room - 1) + 1) (y :: r) = y :: List.take (s.room - 1) r := List.take_succ_cons
    rw [← er] at q
    exact q
  · exact (left_mem g (List.getElem_mem hlt)).1
  · exact (left_mem g (List.getElem_mem hlt)).2
  · rw [List.length_take]
    exact Nat.le_trans (Nat.min_le_left _ _) g.r8
/-- what one group takes -/
def fetch (s : Shaft) (c : List Nat) : Nat := s.depth (c.headD 0) * (2 * 1000 + 80 * c.length)
theorem fetched_map (s : Shaft) (c : List Nat) : fetched (c.map s.depth) = fetch s c := by
  unfold fetched fetch
  rw [List.length_map]
  cases c with
  | nil => simp [depth_zero]
  | cons a r => rfl
theorem need_eq {s : Shaft} (g : Good s) : s.need = s.depth s.at_ * (1000 + 80 * cnt s 9 + s.tub + 80 * (takenL s).length) + Km413.sum ((grp s).map (fetch s)) := by
  unfold Shaft.need
  rw [load_eq g, taken_eq g, List.length_map, groups_at g, List.map_map]
  have e : fetched ∘ List.map s.depth = fetch s := by
    funext c
    exact fetched_map s c
  rw [e]
  rfl
theorem ascents_eq {s : Shaft} (g : Good s) : s.ascents = (if s.at_ = 0 then 0 else 1) + (grp s).length := by
  unfold Shaft.ascents
  rw [groups_at g, List.length_map]
end Ms
set_option Elab.async false
namespace Ms
open Km413
/-! ### minutes -/
def cl (v : Level) : Nat := if v.fan = true then v.clear else 0
theorem after_same : ∀ (n : Nat) (v : Level), (v.after n).depth = v.depth ∧ (v.after n).rate = v.rate ∧ (v.after n).clear = v.clear ∧ (v.after n).fan = v.fan ∧ (v.after n).heap = v.heap
  | 0, _ => ⟨rfl, rfl, rfl, rfl, rfl⟩
  | n + 1, v => after_same n v.minute
theorem after_gas : ∀ (n : Nat) (v : Level), (((v.after n).gas : Nat) : Int) = (if (v.gas : Int) + (n : Int) * ((v.rate : Int) - (cl v : Int)) > 0 then (v.gas : Int) + (n : Int) * ((v.rate : Int) - (cl v : Int)) else 0)
  | 0, v => by
    show ((v.gas : Nat) : Int) = _
    simp only [Int.natCast_zero, Int.zero_mul, Int.add_zero]
    split <;> omega
  | n + 1, v => by
    show (((v.minute.after n).gas : Nat) : Int) = _
    rw [after_gas n v.minute]
    have e1 : v.minute.rate = v.rate := rfl
    have e2 : cl v.minute = cl v := rfl
    have e3 : v.minute.gas = v.gas + v.rate - cl v := rfl
    rw [e1, e2, e3]
    have e4 : ((n + 1 : Nat) : Int) * ((v.rate : Int) - (cl v : Int)) = (n : Int) * ((v.rate : Int) - (cl v : Int)) + ((v.rate : Int) - (cl v : Int)) := by
      rw [Int.natCast_succ, Int.add_mul, Int.one_mul]
    rw [e4]
    have hn : (0 : Int) ≤ (n : Int) := Int.natCast_nonneg n
    by_cases h : cl v ≤ v.rate
    · have p : (0 : Int) ≤ (n : Int) * ((v.rate : Int) - (cl v : Int)) := Int.mul_nonneg hn (by omega)
      generalize (n : Int) * ((v.rate : Int) - (cl v : Int)) = z at *
      split <;> split <;> omega
    · have p : (n : Int) * ((v.rate : Int) - (cl v : Int)) ≤ 0 := Int.mul_nonpos_of_nonneg_of_nonpos hn (by omega)
      generalize (n : Int) * ((v.rate : Int) - (cl v : Int)) = z at *
      split <;> split <;> omega
theorem minutes_eq : ∀ (n : Nat) (s : Shaft), s.minutes n = { s with time := s.time + n, levels := s.levels.map (Level.after n) }
  | 0, s => by
    have e : Level.after 0 = id := rfl
    rw [e, List.map_id]
    rfl
  | n + 1, s => by
    show (Shaft.minutes n _) = _
    rw [minutes_eq n]
    have e : (Level.after n) ∘ Level.minute = Level.after (n + 1) := rfl
    simp only [List.map_map, e]
    rw [show s.time + 1 + n = s.time + (n + 1) by omega]
/-! ### what stays good -/
theorem Good.minutes {s : Shaft} (g : Good s) (n : Nat) : Good (s.minutes n) := by
  rw [minutes_eq]
  refine ⟨g.r1, g.r8, g.sp1, g.sp2, by simpa using g.lv, ?_, ?_, ?_, g.ps, ?_, ?_, by simpa using g.at_, g.ab, g.lk, g.od⟩
  · intro v hv
    obtain ⟨u, hu, rfl⟩ := List.mem_map.mp hv
    rw [(after_same n u).1]
    exact g.dp u hu
  · show (s.levels.map (Level.after n)).Pairwise _
    rw [List.pairwise_map]
    refine g.inc.imp fun {a b} h => ?_
    rw [(after_same n a).1, (after_same n b).1]
    exact h
  · intro v hv
    obtain ⟨u, hu, rfl⟩ := List.mem_map.mp hv
    rw [(after_same n u).2.1, (after_same n u).2.2.1]
    exact g.rt u hu
  · intro x hx
    simpa using g.wh x hx
  · intro x hx
    exact Nat.le_trans (g.sn x hx) (Nat.le_add_right _ _)
theorem Good.opened {a b c : Nat} (h1 : 1 ≤ a) (h2 : a ≤ 8) (h3 : 1 ≤ c) (h4 : c ≤ 1000) : Good (opened a b c) :=
  ⟨h1, h2, h3, h4, Nat.zero_le _, fun _ h => absurd h List.not_mem_nil, List.Pairwise.nil, fun _ h => absurd h List.not_mem_nil, Nat.zero_le _, fun _ h => absurd h List.not_mem_nil, fun _ h => absurd h List.not_mem_nil, Nat.zero_le _, Nat.zero_le _, Nat.zero_le _, fun _ h => absurd h List.not_mem_nil⟩
theorem Good.level {s : Shaft} (g : Good s) {x r c : Nat} (h1 : 1 ≤ x) (h2 : x ≤ 2000) (h3 : r ≤ 2000) (h4 : c ≤ 5000) (hd : ∀ v ∈ s.levels, v.depth < x) (hl : s.levels.length < 5) :
    Good { s with levels := s.levels ++ [⟨x, r, c, false, 0, 0⟩] } := by
  refine ⟨g.r1, g.r8, g.sp1, g.sp2, by simp; omega, ?_, ?_, ?_, g.ps, ?_, g.sn, ?_, g.ab, g.lk, g.od⟩
  · intro v hv
    rcases List.mem_append.mp hv with hv | hv
    · exact g.dp v hv
    · rw [List.mem_singleton.mp hv]; exact ⟨h1, h2⟩
  · show (s.levels ++ [_]).Pairwise _
    rw [List.pairwise_append]
    exact ⟨g.inc, by simp, fun a ha b hb => by rw [List.mem_singleton.mp hb]; exact hd a ha⟩
  · intro v hv
    rcases List.mem_append.mp hv with hv | hv
    · exact g.rt v hv
    · rw [List.mem_singleton.mp hv]; exact ⟨h3, h4⟩
  · intro y hy
    have := g.wh y hy
    simp; omega
  · have := g.at_
    simp; omega
theorem Good.hire {s : Shaft} (g : Good s) (h : s.persons.length < 24) : Good { s with persons := s.persons ++ [⟨.at_ 0, s.time⟩] } := by
  refine ⟨g.r1, g.r8, g.sp1, g.sp2, g.lv, g.dp, g.inc, g.rt, by simp; omega, ?_, ?_, g.at_, ?_, g.lk, g.od⟩
  · intro y hy
    rcases List.mem_append.mp hy with hy | hy
    · exact g.wh y hy
    · rw [List.mem_singleton.mp hy]; exact Nat.zero_le _
  · intro y hy
    rcases List.mem_append.mp hy with hy | hy
    · exact g.sn y hy
    · rw [List.mem_singleton.mp hy]; exact Nat.le_refl _
  · show ((s.persons ++ [_]).filter _).length ≤ _
    rw [List.filter_append]
    simpa using g.ab
theorem filter_set_len {α : Type} (f : α → Bool) : ∀ (l : List α) (i : Nat) (x y : α), l[i]? = some x → ((l.set i y).filter f).length + (if f x = true then 1 else 0) = (l.filter f).length + (if f y = true then 1 else 0)
  | [], i, x, y, h => by simp at h
  | a :: r, 0, x, y, h => by
    have e : a = x := by simpa using h
    subst e
    simp only [List.set_cons_zero, List.filter_cons]
    cases f a <;> cases f y <;> simp
  | a :: r, i + 1, x, y, h => by
    have ih := filter_set_len f r i x y (by simpa using h)
    simp only [List.set_cons_succ, List.filter_cons]
    cases f a <;> simp <;> omega
theorem mem_set {α : Type} {l : List α} {i : Nat} {y z : α} (h : z ∈ l.set i y) : z ∈ l ∨ z = y := by
  rcases List.mem_or_eq_of_mem_set h with h | h
  · exact .inl h
  · exact .inr h
theorem Good.puts {s : Shaft} (g : Good s) {p : Nat} {x : Person} {q : Place} {t : Nat} (hp : s.persons[p]? = some x) (hq : levelIn ⟨q, t⟩ ≤ s.levels.length) (ht : t ≤ s.time)
    (hr : q = .cage → x.place = .cage ∨ (s.persons.filter fun x => x.place == .cage).length < s.room) : Good (s.puts p q t) := by
  refine ⟨g.r1, g.r8, g.sp1, g.sp2, g.lv, g.dp, g.inc, g.rt, by show (s.persons.set _ _).length ≤ _; rw [List.length_set]; exact g.ps, ?_, ?_, g.at_, ?_, g.lk, g.od⟩
  · intro y hy
    rcases mem_set hy with hy | rfl
    · exact g.wh y hy
    · exact hq
  · intro y hy
    rcases mem_set hy with hy | rfl
    · exact g.sn y hy
    · exact ht
  · have e := filter_set_len (fun x : Person => x.place == .cage) s.persons p x ⟨q, t⟩ hp
    have ga := g.ab
    show ((s.persons.set p ⟨q, t⟩).filter _).length ≤ s.room
    by_cases c : q = .cage
    · subst c
      have e2 : ((⟨.cage, t⟩ : Person).place == Place.cage) = true := rfl
      simp only [e2, if_true] at e
      rcases hr rfl with h | h
      · have e3 : (x.place == Place.cage) = true := by rw [h]; rfl
        simp only [e3, if_true] at e
        omega
      · split at e <;> omega
    · have e2 : ¬ ((⟨q, t⟩ : Person).place == Place.cage) = true := by
        intro z
        exact c (beq_iff_eq.mp z)
      simp only [e2] at e
      split at e <;> simp at e <;> omega
theorem Good.lvset {s : Shaft} (g : Good s) {i : Nat} {v u : Level} (h : s.levels[i]? = some v) (e1 : u.depth = v.depth) (e2 : u.rate = v.rate) (e3 : u.clear = v.clear) : Good { s with levels := s.levels.set i u } := by
  have hv := List.mem_of_getElem? h
  refine ⟨g.r1, g.r8, g.sp1, g.sp2, by simpa using g.lv, ?_, ?_, ?_, g.ps, fun x hx => by simpa using g.wh x hx, g.sn, by simpa using g.at_, g.ab, g.lk, g.od⟩
  · intro w hw
    rcases mem_set hw with hw | rfl
    · exact g.dp w hw
    · rw [e1]; exact g.dp v hv
  · show (s.levels.set i u).Pairwise _
    have q : (s.levels.map (·.depth)).Pairwise (· < ·) := List.pairwise_map.mpr g.inc
    have e : (s.levels.set i u).map (·.depth) = s.levels.map (·.depth) := by
      rw [List.map_set, e1]
      apply List.ext_getElem?
      intro j
      rw [List.getElem?_set]
      split
      · rename_i hij
        subst hij
        rw [List.getElem?_map, h]
        split
        · rfl
        · rename_i hlt
          exact absurd (by simpa using (List.getElem?_eq_some_iff.mp h).1) hlt
      · rfl
    rw [← e] at q
    exact List.pairwise_map.mp q
  · intro w hw
    rcases mem_set hw with hw | rfl
    · exact g.rt w hw
    · rw [e2, e3]; exact g.rt v hv
/-- other fields hold nothing of it -/
theorem Good.other {s t : Shaft} (g : Good s) (h1 : t.room = s.room) (h2 : t.speed = s.speed) (h3 : t.levels = s.levels) (h4 : t.persons = s.persons) (h5 : t.time = s.time) (h6 : t.at_ ≤ s.levels.length) (h7 : t.locks.length ≤ 4) (h8 : ∀ x ∈ t.locks, ¬ (x.1 = true ∧ x.2 = true)) : Good t := by
  obtain ⟨⟩ := t
  obtain ⟨⟩ := s
  simp only at h1 h2 h3 h4 h5 h6 h7 h8
  subst h1 h2 h3 h4 h5
  exact ⟨g.r1, g.r8, g.sp1, g.sp2, g.lv, g.dp, g.inc, g.rt, g.ps, g.wh, g.sn, h6, g.ab, h7, h8⟩
/-! ### what does not hang on minutes -/
theorem depth_minutes (s : Shaft) (n l : Nat) : (s.minutes n).depth l = s.depth l := by
  rw [minutes_eq]
  unfold Shaft.depth
  by_cases h : l = 0
  · rw [if_pos h, if_pos h]
  · rw [if_neg h, if_neg h]
    show (match (s.levels.map (Level.after n))[l - 1]? with | some v => v.depth | none => 0) = _
    rw [List.getElem?_map]
    cases s.levels[l - 1]? with
    | none => rfl
    | some v => exact (after_same n v).1
theorem need_minutes (s : Shaft) (n : Nat) : (s.minutes n).need = s.need := by
  have ed : (s.minutes n).depth = s.depth := funext fun l => depth_minutes s n l
  have ea : (s.minutes n).at_ = s.at_ := by rw [minutes_eq]
  have er : (s.minutes n).room = s.room := by rw [minutes_eq]
  have ep : (s.minutes n).persons = s.persons := by rw [minutes_eq]
  have et : (s.minutes n).tub = s.tub := by rw [minutes_eq]
  have eb : (s.minutes n).aboard = s.aboard := by unfold Shaft.aboard; rw [ep]
  have eb2 : (s.minutes n).below = s.below := by unfold Shaft.below; rw [ep]
  have e1 : (s.minutes n).depths = s.depths := by unfold Shaft.depths; rw [ep, ed, eb2]
  have e2 : (s.minutes n).taken = s.taken := by unfold Shaft.taken; rw [e1, ea, ed, er, eb]
  have e3 : (s.minutes n).left = s.left := by unfold Shaft.left; rw [e1, ea, ed, er, eb]
  have e4 : (s.minutes n).load = s.load := by unfold Shaft.load; rw [eb, et]
  unfold Shaft.need
  rw [e2, e3, e4, ea, ed, er]
theorem safe_minutes (s : Shaft) (n : Nat) : (s.minutes n).safe = s.safe := by
  unfold Shaft.safe
  rw [need_minutes]
  have e1 : (s.minutes n).worn = s.worn := by rw [minutes_eq]
  have e2 : (s.minutes n).rope = s.rope := by rw [minutes_eq]
  rw [e1, e2]
end Ms
set_option Elab.async false
set_option linter.all false
namespace Ms
open Km413
/-- a call upon one shaft alone -/
def chg (s : Shaft) (c : Call) : Desk × Ans := act ⟨s, [], []⟩ c
section
variable {s : Shaft}
/-! ### sh_level, sh_hire -/
theorem chg_level_bad {x r c : Nat} (h : x = 0 ∨ 2000 < x ∨ 2000 < r ∨ 5000 < c ∨ (∃ v, s.levels.getLast? = some v ∧ x ≤ v.depth)) : (chg s (.level x r c)).2.value = -22 := by
  unfold chg act
  dsimp only
  rw [if_pos]
  · rfl
  · rcases h with h | h | h | h | ⟨v, h1, h2⟩
    · exact .inl h
    · exact .inr (.inl h)
    · exact .inr (.inr (.inl h))
    · exact .inr (.inr (.inr (.inl h)))
    · refine .inr (.inr (.inr (.inr ?_)))
      simp only [h1, decide_eq_true_eq]
      exact h2
theorem chg_level_cond {x r c : Nat} (h1 : x ≠ 0) (h2 : x ≤ 2000) (h3 : r ≤ 2000) (h4 : c ≤ 5000) (h5 : ∀ v, s.levels.getLast? = some v → v.depth < x) :
    ¬ (x = 0 ∨ 2000 < x ∨ 2000 < r ∨ 5000 < c ∨ (match s.levels.getLast? with | some v => decide (x ≤ v.depth) | none => false) = true) := by
  rintro (h | h | h | h | h)
  · exact h1 h
  · omega
  · omega
  · omega
  · cases q : s.levels.getLast? with
    | none => rw [q] at h; simp at h
    | some v =>
      rw [q] at h
      have := h5 v q
      simp at h
      omega
theorem chg_level_full {x r c : Nat} (h1 : x ≠ 0) (h2 : x ≤ 2000) (h3 : r ≤ 2000) (h4 : c ≤ 5000) (h5 : ∀ v, s.levels.getLast? = some v → v.depth < x) (h6 : 5 ≤ s.levels.length) : (chg s (.level x r c)).2.value = -28 := by
  unfold chg act
  dsimp only
  rw [if_neg]
  · rw [if_pos (show LEVELS ≤ _ from h6)]
    rfl
  · exact chg_level_cond h1 h2 h3 h4 h5
theorem chg_level_ok {x r c : Nat} (h1 : x ≠ 0) (h2 : x ≤ 2000) (h3 : r ≤ 2000) (h4 : c ≤ 5000) (h5 : ∀ v, s.levels.getLast? = some v → v.depth < x) (h6 : s.levels.length < 5) :
    (chg s (.level x r c)).2.value = ((s.levels.length + 1 : Nat) : Int) ∧ (chg s (.level x r c)).1.now = { s with levels := s.levels ++ [⟨x, r, c, false, 0, 0⟩] } := by
  unfold chg act
  dsimp only
  rw [if_neg]
  · rw [if_neg (show ¬ LEVELS ≤ _ from Nat.not_le.mpr h6)]
    exact ⟨rfl, rfl⟩
  · exact chg_level_cond h1 h2 h3 h4 h5
theorem chg_hire_full (h : 24 ≤ s.persons.length) : (chg s .hire).2.value = -28 := by
  unfold chg act
  dsimp only
  rw [if_pos (show PERSONS ≤ _ from h)]
  rfl
theorem chg_hire_ok (h : s.persons.length < 24) : (chg s .hire).2.value = ((s.persons.length : Nat) : Int) ∧ (chg s .hire).1.now = { s with persons := s.persons ++ [⟨.at_ 0, s.time⟩] } := by
  unfold chg act
  dsimp only
  rw [if_neg (show ¬ PERSONS ≤ _ from Nat.not_le.mpr h)]
  exact ⟨rfl, rfl⟩
/-! ### sh_board, sh_leave -/
theorem chg_board_none {p : Nat} (h : s.persons[p]? = none) : (chg s (.board p)).2.value = -2 := by
  unfold chg act
  simp only [h]
  rfl
theorem chg_board_in {p : Nat} {x : Person} (h : s.persons[p]? = some x) (h1 : x.place = .cage) : (chg s (.board p)).2.value = -17 := by
  unfold chg act
  simp only [h]
  rw [if_pos h1]
  rfl
theorem chg_board_away {p : Nat} {x : Person} (h : s.persons[p]? = some x) (h1 : x.place ≠ .cage) (h2 : x.place ≠ .at_ s.at_) : (chg s (.board p)).2.value = -16 := by
  unfold chg act
  simp only [h]
  rw [if_neg h1, if_pos h2]
  rfl
theorem chg_board_full {p : Nat} {x : Person} (h : s.persons[p]? = some x) (h1 : x.place ≠ .cage) (h2 : x.place = .at_ s.at_) (h3 : s.room ≤ s.aboard.length) : (chg s (.board p)).2.value = -28 := by
  unfold chg act
  simp only [h]
  rw [if_neg h1, if_neg (fun q => q h2), if_pos h3]
  rfl
theorem chg_board_ok {p : Nat} {x : Person} (h : s.persons[p]? = some x) (h1 : x.place ≠ .cage) (h2 : x.place = .at_ s.at_) (h3 : s.aboard.length < s.room) :
    (chg s (.board p)).2.value = ((s.aboard.length + 1 : Nat) : Int) ∧ (chg s (.board p)).1.now = s.puts p .cage (if s.at_ = 0 then s.time else x.since) := by
  unfold chg act
  simp only [h]
  rw [if_neg h1, if_neg (fun q => q h2), if_neg (Nat.not_le.mpr h3)]
  exact ⟨rfl, rfl⟩
theorem chg_leave_none {p : Nat} (h : s.persons[p]? = none) : (chg s (.leave p)).2.value = -2 := by
  unfold chg act
  simp only [h]
  rfl
theorem chg_leave_out {p : Nat} {x : Person} (h : s.persons[p]? = some x) (h1 : x.place ≠ .cage) : (chg s (.leave p)).2.value = -16 := by
  unfold chg act
  simp only [h]
  rw [if_pos h1]
  rfl
/-- the air where the cage is -/
def foulAt (s : Shaft) : Prop := ∃ v, s.level s.at_ = some v ∧ 10000 < v.gas
theorem foulAt_iff : (match s.level s.at_ with | some v => decide (FOUL < v.gas) | none => false) = true ↔ foulAt s := by
  unfold foulAt
  cases q : s.level s.at_ with
  | none => simp
  | some v =>
    simp only [decide_eq_true_eq]
    constructor
    · exact fun h => ⟨v, rfl, h⟩
    · rintro ⟨u, e, h⟩
      cases e
      exact h
theorem chg_leave_foul {p : Nat} {x : Person} (h : s.persons[p]? = some x) (h1 : x.place = .cage) (h2 : foulAt s) : (chg s (.leave p)).2.value = -13 := by
  unfold chg act
  simp only [h]
  rw [if_neg (fun q => q h1), if_pos]
  · rfl
  · exact foulAt_iff.mpr h2
theorem chg_leave_unsafe {p : Nat} {x : Person} (h : s.persons[p]? = some x) (h1 : x.place = .cage) (h2 : ¬ foulAt s) (h3 : (s.puts p (.at_ s.at_) x.since).safe = false) : (chg s (.leave p)).2.value = -62 := by
  unfold chg act
  simp only [h]
  rw [if_neg (fun q => q h1), if_neg]
  · rw [if_pos h3]
    rfl
  · exact fun q => h2 (foulAt_iff.mp q)
theorem chg_leave_ok {p : Nat} {x : Person} (h : s.persons[p]? = some x) (h1 : x.place = .cage) (h2 : ¬ foulAt s) (h3 : (s.puts p (.at_ s.at_) x.since).safe = true) :
    (chg s (.leave p)).2.value = (((s.puts p (.at_ s.at_) x.since).aboard.length : Nat) : Int) ∧ (chg s (.leave p)).1.now = s.puts p (.at_ s.at_) x.since := by
  unfold chg act
  simp only [h]
  rw [if_neg (fun q => q h1), if_neg]
  · rw [if_neg (by rw [h3]; decide)]
    exact ⟨rfl, rfl⟩
  · exact fun q => h2 (foulAt_iff.mp q)
/-! ### sh_wind, sh_wait, sh_fan -/
theorem chg_wind_none {l : Nat} (h : s.levels.length < l) : (chg s (.wind l)).2.value = -2 := by
  unfold chg act
  dsimp only
  rw [if_pos h]
  rfl
theorem chg_wind_there {l : Nat} (h : l ≤ s.levels.length) (h1 : l = s.at_) : (chg s (.wind l)).2.value = -17 := by
  unfold chg act
  dsimp only
  rw [if_neg (Nat.not_lt.mpr h), if_pos h1]
  rfl
/-- the cage there, no minutes gone by -/
def wound (s : Shaft) (l : Nat) : Shaft := { s with at_ := l, worn := s.worn + absDiff (s.depth s.at_) (s.depth l) * s.load }
def takes (s : Shaft) (l : Nat) : Nat := (absDiff (s.depth s.at_) (s.depth l) + s.speed - 1) / s.speed
theorem goes_eq (l : Nat) : s.goes l = (wound s l).minutes (takes s l) := rfl
theorem goes_safe (l : Nat) : (s.goes l).safe = (wound s l).safe := by rw [goes_eq, safe_minutes]
theorem goes_time (l : Nat) : (s.goes l).time = s.time + takes s l := by rw [goes_eq, minutes_eq]; rfl
theorem goes_worn (l : Nat) : (s.goes l).worn = s.worn + absDiff (s.depth s.at_) (s.depth l) * s.load := by rw [goes_eq, minutes_eq]; rfl
theorem chg_wind_unsafe {l : Nat} (h : l ≤ s.levels.length) (h1 : l ≠ s.at_) (h2 : (wound s l).safe = false) : (chg s (.wind l)).2.value = -62 := by
  unfold chg act
  dsimp only
  rw [if_neg (Nat.not_lt.mpr h), if_neg h1]
  rw [if_pos (by rw [goes_safe]; exact h2)]
  rfl
theorem chg_wind_late {l : Nat} (h : l ≤ s.levels.length) (h1 : l ≠ s.at_) (h2 : (wound s l).safe = true) (h3 : 1000000 < s.time + takes s l) : (chg s (.wind l)).2.value = -75 := by
  unfold chg act
  dsimp only
  rw [if_neg (Nat.not_lt.mpr h), if_neg h1]
  rw [if_neg (by rw [goes_safe, h2]; decide), if_pos (by rw [goes_time]; exact h3)]
  rfl
theorem chg_wind_ok {l : Nat} (h : l ≤ s.levels.length) (h1 : l ≠ s.at_) (h2 : (wound s l).safe = true) (h3 : s.time + takes s l ≤ 1000000) :
    (chg s (.wind l)).2.value = ((takes s l : Nat) : Int) ∧ (chg s (.wind l)).1.now = (wound s l).minutes (takes s l) := by
  unfold chg act
  dsimp only
  rw [if_neg (Nat.not_lt.mpr h), if_neg h1]
  rw [if_neg (by rw [goes_safe, h2]; decide), if_neg (by rw [goes_time]; exact Nat.not_lt.mpr h3)]
  refine ⟨?_, rfl⟩
  show (((s.goes l).time - s.time : Nat) : Int) = _
  rw [goes_time, Nat.add_sub_cancel_left]
theorem chg_wait_bad {n : Nat} (h : n = 0 ∨ 1440 < n) : (chg s (.wait n)).2.value = -22 := by
  unfold chg act
  dsimp only
  rw [if_pos h]
  rfl
theorem chg_wait_late {n : Nat} (h : ¬ (n = 0 ∨ 1440 < n)) (h1 : 999000 < s.time + n) : (chg s (.wait n)).2.value = -75 := by
  unfold chg act
  dsimp only
  rw [if_neg h, if_pos (show LATEST - 1000 < _ from h1)]
  rfl
theorem chg_wait_ok {n : Nat} (h : ¬ (n = 0 ∨ 1440 < n)) (h1 : s.time + n ≤ 999000) : (chg s (.wait n)).2.value = ((s.time + n : Nat) : Int) ∧ (chg s (.wait n)).1.now = s.minutes n := by
  unfold chg act
  dsimp only
  rw [if_neg h, if_neg (show ¬ LATEST - 1000 < _ from Nat.not_lt.mpr h1)]
  exact ⟨rfl, rfl⟩
theorem level_none {l : Nat} (h : l = 0 ∨ s.levels.length < l) : s.level l = none := by
  unfold Shaft.level
  rcases h with h | h
  · rw [if_pos h]
  · rw [if_neg (by omega)]
    exact List.getElem?_eq_none_iff.mpr (by omega)
theorem level_some {l : Nat} {v : Level} (h : s.levels[l]? = some v) : s.level (l + 1) = some v := by
  unfold Shaft.level
  rw [if_neg (by omega)]
  exact h
theorem chg_fan_none {l o : Nat} (h : s.level l = none) : (chg s (.fan l o)).2.value = -2 := by
  unfold chg act
  simp only [h]
  rfl
theorem chg_fan_bad {l o : Nat} {v : Level} (h : s.level l = some v) (h1 : 1 < o) : (chg s (.fan l o)).2.value = -22 := by
  unfold chg act
  simp only [h]
  rw [if_pos h1]
  rfl
theorem chg_fan_so {l o : Nat} {v : Level} (h : s.level l = some v) (h1 : o ≤ 1) (h2 : v.fan = (o == 1)) : (chg s (.fan l o)).2.value = -17 := by
  unfold chg act
  simp only [h]
  rw [if_neg (Nat.not_lt.mpr h1), if_pos h2]
  rfl
theorem chg_fan_ok {l o : Nat} {v : Level} (h : s.level l = some v) (h1 : o ≤ 1) (h2 : v.fan ≠ (o == 1)) :
    (chg s (.fan l o)).2.value = ((v.gas : Nat) : Int) ∧ (chg s (.fan l o)).1.now = { s with levels := s.levels.set (l - 1) { v with fan := o == 1 } } := by
  unfold chg act
  simp only [h]
  rw [if_neg (Nat.not_lt.mpr h1), if_neg h2]
  exact ⟨rfl, rfl⟩
/-! ### sh_mine, sh_load, sh_dump -/
theorem chg_mine_none {l k : Nat} (h : s.level l = none) : (chg s (.mine l k)).2.value = -2 := by
  unfold chg act
  simp only [h]
  rfl
theorem chg_mine_bad {l k : Nat} {v : Level} (h : s.level l = some v) (h1 : k = 0 ∨ 10000 < k) : (chg s (.mine l k)).2.value = -22 := by
  unfold chg act
  simp only [h]
  rw [if_pos h1]
  rfl
theorem chg_mine_nobody {l k : Nat} {v : Level} (h : s.level l = some v) (h1 : ¬ (k = 0 ∨ 10000 < k)) (h2 : (s.onLevel l).length = 0) : (chg s (.mine l k)).2.value = -6 := by
  unfold chg act
  simp only [h]
  rw [if_neg h1, if_pos (List.length_eq_zero_iff.mp h2)]
  rfl
theorem chg_mine_full {l k : Nat} {v : Level} (h : s.level l = some v) (h1 : ¬ (k = 0 ∨ 10000 < k)) (h2 : (s.onLevel l).length ≠ 0) (h3 : 2000000000 < s.mined + k) : (chg s (.mine l k)).2.value = -28 := by
  unfold chg act
  simp only [h]
  rw [if_neg h1, if_neg (fun q => h2 (List.length_eq_zero_iff.mpr q)), if_pos (show ORE < _ from h3)]
  rfl
theorem chg_mine_ok {l k : Nat} {v : Level} (h : s.level l = some v) (h1 : ¬ (k = 0 ∨ 10000 < k)) (h2 : (s.onLevel l).length ≠ 0) (h3 : s.mined + k ≤ 2000000000) :
    (chg s (.mine l k)).2.value = ((v.heap + k : Nat) : Int) ∧ (chg s (.mine l k)).1.now = { s with levels := s.levels.set (l - 1) { v with heap := v.heap + k }, mined := s.mined + k } := by
  unfold chg act
  simp only [h]
  rw [if_neg h1, if_neg (fun q => h2 (List.length_eq_zero_iff.mpr q)), if_neg (show ¬ ORE < _ from Nat.not_lt.mpr h3)]
  exact ⟨rfl, rfl⟩
theorem chg_load_up {k : Nat} (h : s.level s.at_ = none) : (chg s (.load k)).2.value = -16 := by
  unfold chg act
  simp only [h]
  rfl
theorem chg_load_bad {k : Nat} {v : Level} (h : s.level s.at_ = some v) (h1 : k = 0) : (chg s (.load k)).2.value = -22 := by
  unfold chg act
  simp only [h]
  rw [if_pos h1]
  rfl
theorem chg_load_less {k : Nat} {v : Level} (h : s.level s.at_ = some v) (h1 : k ≠ 0) (h2 : v.heap < k) : (chg s (.load k)).2.value = -12 := by
  unfold chg act
  simp only [h]
  rw [if_neg h1, if_pos h2]
  rfl
theorem chg_load_full {k : Nat} {v : Level} (h : s.level s.at_ = some v) (h1 : k ≠ 0) (h2 : k ≤ v.heap) (h3 : 3000 < s.tub + k) : (chg s (.load k)).2.value = -28 := by
  unfold chg act
  simp only [h]
  rw [if_neg h1, if_neg (Nat.not_lt.mpr h2), if_pos (show TUB < _ from h3)]
  rfl
/-- so much more in the tub -/
def loaded (s : Shaft) (v : Level) (k : Nat) : Shaft := { s with levels := s.levels.set (s.at_ - 1) { v with heap := v.heap - k }, tub := s.tub + k }
theorem chg_load_unsafe {k : Nat} {v : Level} (h : s.level s.at_ = some v) (h1 : k ≠ 0) (h2 : k ≤ v.heap) (h3 : s.tub + k ≤ 3000) (h4 : (loaded s v k).safe = false) : (chg s (.load k)).2.value = -62 := by
  unfold chg act
  simp only [h]
  rw [if_neg h1, if_neg (Nat.not_lt.mpr h2), if_neg (show ¬ TUB < _ from Nat.not_lt.mpr h3), if_pos]
  · rfl
  · exact h4
theorem chg_load_ok {k : Nat} {v : Level} (h : s.level s.at_ = some v) (h1 : k ≠ 0) (h2 : k ≤ v.heap) (h3 : s.tub + k ≤ 3000) (h4 : (loaded s v k).safe = true) :
    (chg s (.load k)).2.value = ((s.tub + k : Nat) : Int) ∧ (chg s (.load k)).1.now = loaded s v k := by
  unfold chg act
  simp only [h]
  rw [if_neg h1, if_neg (Nat.not_lt.mpr h2), if_neg (show ¬ TUB < _ from Nat.not_lt.mpr h3), if_neg]
  · exact ⟨rfl, rfl⟩
  · show ¬ (loaded s v k).safe = false
    rw [h4]
    decide
theorem chg_dump_below (h : s.at_ ≠ 0) : (chg s .dump).2.value = -16 := by
  unfold chg act
  dsimp only
  rw [if_pos h]
  rfl
theorem chg_dump_empty (h : s.at_ = 0) (h1 : s.tub = 0) : (chg s .dump).2.value = -6 := by
  unfold chg act
  dsimp only
  rw [if_neg (fun q => q h), if_pos h1]
  rfl
theorem chg_dump_ok (h : s.at_ = 0) (h1 : s.tub ≠ 0) : (chg s .dump).2.value = ((s.bin + s.tub : Nat) : Int) ∧ (chg s .dump).1.now = { s with bin := s.bin + s.tub, tub := 0 } := by
  unfold chg act
  dsimp only
  rw [if_neg (fun q => q h), if_neg h1]
  exact ⟨rfl, rfl⟩
/-! ### sh_rope, the locks -/
theorem chg_rope_bad {n : Nat} (h : 2000000000 < n) : (chg s (.rope n)).2.value = -22 := by
  unfold chg act
  dsimp only
  rw [if_pos h]
  rfl
theorem chg_rope_busy {n : Nat} (h : n ≤ 2000000000) (h1 : s.at_ ≠ 0 ∨ bl s ≠ []) : (chg s (.rope n)).2.value = -16 := by
  unfold chg act
  dsimp only
  rw [if_neg (Nat.not_lt.mpr h), if_pos]
  · rfl
  · rcases h1 with h1 | h1
    · exact .inl h1
    · exact .inr fun q => h1 ((below_nil s).mp q)
theorem chg_rope_ok {n : Nat} (h : n ≤ 2000000000) (h1 : s.at_ = 0) (h2 : bl s = []) : (chg s (.rope n)).2.value = ((s.worn : Nat) : Int) ∧ (chg s (.rope n)).1.now = { s with rope := n, worn := 0 } := by
  unfold chg act
  dsimp only
  rw [if_neg (Nat.not_lt.mpr h), if_neg]
  · exact ⟨rfl, rfl⟩
  · rintro (q | q)
    · exact q h1
    · exact q ((below_nil s).mpr h2)
theorem chg_lock_full (h : 4 ≤ s.locks.length) : (chg s .lock).2.value = -28 := by
  unfold chg act
  dsimp only
  rw [if_pos (show LOCKS ≤ _ from h)]
  rfl
theorem chg_lock_ok (h : s.locks.length < 4) : (chg s .lock).2.value = ((s.locks.length : Nat) : Int) ∧ (chg s .lock).1.now = { s with locks := s.locks ++ [(false, false)] } := by
  unfold chg act
  dsimp only
  rw [if_neg (show ¬ LOCKS ≤ _ from Nat.not_le.mpr h)]
  exact ⟨rfl, rfl⟩
/-- a lock's door -/
def door (x : Bool × Bool) (e : Nat) : Bool := if e = 0 then x.1 else x.2
theorem chg_open_none {k e : Nat} (h : s.locks[k]? = none) : (chg s (.open_ k e)).2.value = -2 := by
  unfold chg act
  simp only [h]
  rfl
theorem chg_open_bad {k e : Nat} {x : Bool × Bool} (h : s.locks[k]? = some x) (h1 : 1 < e) : (chg s (.open_ k e)).2.value = -22 := by
  unfold chg act
  simp only [h]
  rw [if_pos h1]
  rfl
theorem chg_open_so {k e : Nat} {x : Bool × Bool} (h : s.locks[k]? = some x) (h1 : e ≤ 1) (h2 : door x e = true) : (chg s (.open_ k e)).2.value = -17 := by
  unfold chg act
  simp only [h]
  rw [if_neg (Nat.not_lt.mpr h1), if_pos (show (if e = 0 then x.1 else x.2) = true from h2)]
  rfl
theorem chg_open_other {k e : Nat} {x : Bool × Bool} (h : s.locks[k]? = some x) (h1 : e ≤ 1) (h2 : door x e = false) (h3 : door x (1 - e) = true) : (chg s (.open_ k e)).2.value = -16 := by
  unfold chg act
  simp only [h]
  rw [if_neg (Nat.not_lt.mpr h1), if_neg (show ¬ (if e = 0 then x.1 else x.2) = true from fun q => by rw [show (if e = 0 then x.1 else x.2) = false from h2] at q; cases q), if_pos]
  · rfl
  · have : e = 0 ∨ e = 1 := by omega
    rcases this with rfl | rfl <;> exact h3
theorem chg_open_ok {k e : Nat} {x : Bool × Bool} (h : s.locks[k]? = some x) (h1 : e ≤ 1) (h2 : door x e = false) (h3 : door x (1 - e) = false) :
    (chg s (.open_ k e)).2.value = 0 ∧ (chg s (.open_ k e)).1.now = { s with locks := s.locks.set k (e == 0, e == 1) } := by
  unfold chg act
  simp only [h]
  rw [if_neg (Nat.not_lt.mpr h1), if_neg (show ¬ (if e = 0 then x.1 else x.2) = true from fun q => by rw [show (if e = 0 then x.1 else x.2) = false from h2] at q; cases q), if_neg]
  · exact ⟨rfl, rfl⟩
  · have : e = 0 ∨ e = 1 := by omega
    rcases this with rfl | rfl
    · show ¬ x.2 = true
      rw [show x.2 = false from h3]; decide
    · show ¬ x.1 = true
      rw [show x.1 = false from h3]; decide
theorem chg_shut_none {k e : Nat} (h : s.locks[k]? = none) : (chg s (.shut k e)).2.value = -2 := by
  unfold chg act
  simp only [h]
  rfl
theorem chg_shut_bad {k e : Nat} {x : Bool × Bool} (h : s.locks[k]? = some x) (h1 : 1 < e) : (chg s (.shut k e)).2.value = -22 := by
  unfold chg act
  simp only [h]
  rw [if_pos h1]
  rfl
theorem chg_shut_so {k e : Nat} {x : Bool × Bool} (h : s.locks[k]? = some x) (h1 : e ≤ 1) (h2 : door x e = false) : (chg s (.shut k e)).2.value = -17 := by
  unfold chg act
  simp only [h]
  rw [if_neg (Nat.not_lt.mpr h1), if_pos (show (if e = 0 then x.1 else x.2) = false from h2)]
  rfl
theorem chg_shut_ok {k e : Nat} {x : Bool × Bool} (h : s.locks[k]? = some x) (h1 : e ≤ 1) (h2 : door x e = true) :
    (chg s (.shut k e)).2.value = 0 ∧ (chg s (.shut k e)).1.now = { s with locks := s.locks.set k (false, false) } := by
  unfold chg act
  simp only [h]
  rw [if_neg (Nat.not_lt.mpr h1), if_neg (show ¬ (if e = 0 then x.1 else x.2) = false from fun q => by rw [show (if e = 0 then x.1 else x.2) = true from h2] at q; cases q)]
  exact ⟨rfl, rfl⟩
end
end Ms
set_option Elab.async false
set_option linter.all false
namespace Ms
open Km413
/-- the calls that change -/
def isChange : Call → Bool
  | .level _ _ _ | .hire | .board _ | .leave _ | .wind _ | .wait _ | .fan _ _ | .mine _ _ | .load _ | .dump | .rope _ | .lock | .open_ _ _ | .shut _ _ => true
  | _ => false
/-- a change upon a desk is a change upon its shaft -/
theorem act_change (d : Desk) (c : Call) (h : isChange c = true) : act d c = if (chg d.now c).2.value < 0 then (d, (chg d.now c).2) else (d.become (chg d.now c).1.now, (chg d.now c).2) := by
  cases c <;> first | (simp only [isChange] at h; cases h; done) | skip
  all_goals
    unfold chg act
    dsimp only
    repeat' split
    all_goals first
      | rfl
      | (exfalso; revert ‹_ < _›; simp only [only]; omega)
      | (exfalso; revert ‹¬ (_ < _)›; simp only [only]; decide)
      | skip
theorem chg_out (s : Shaft) (c : Call) (h : isChange c = true) : (chg s c).2.out = [] := by
  cases c <;> first | (simp only [isChange] at h; cases h; done) | skip
  all_goals
    unfold chg act
    dsimp only
    repeat' split
    all_goals rfl
theorem level_get {s : Shaft} {l : Nat} {v : Level} (h : s.level l = some v) : s.levels[l - 1]? = some v := by
  unfold Shaft.level at h
  split at h
  · cases h
  · exact h
theorem chg_good {s : Shaft} (g : Good s) (c : Call) (h : isChange c = true) : Good (chg s c).1.now := by
  cases c <;> first | (simp only [isChange] at h; cases h; done) | skip
  case level x r c =>
    unfold chg act
    dsimp only
    split
    · exact g
    · rename_i h1
      split
      · exact g
      · rename_i h2
        have h2 : s.levels.length < 5 := Nat.not_le.mp h2
        refine g.level (by omega) (by omega) (by omega) (by omega) (fun v hv => ?_) h2
        cases q : s.levels.getLast? with
        | none =>
          rw [List.getLast?_eq_none_iff.mp q] at hv
          cases hv
        | some u =>
          have hu : u.depth < x := by
            apply Nat.lt_of_not_le
            intro z
            apply h1
            refine .inr (.inr (.inr (.inr ?_)))
            rw [q]
            exact decide_eq_true z
          obtain ⟨ys, hy⟩ := List.getLast?_eq_some_iff.mp q
          have inc := g.inc
          rw [hy, List.pairwise_append] at inc
          rw [hy] at hv
          rcases List.mem_append.mp hv with hv | hv
          · exact Nat.lt_trans (inc.2.2 v hv u (List.mem_singleton.mpr rfl)) hu
          · rw [List.mem_singleton.mp hv]; exact hu
  case hire =>
    unfold chg act
    dsimp only
    split
    · exact g
    · rename_i h1
      exact g.hire (Nat.not_le.mp h1)
  case board p =>
    unfold chg act
    dsimp only
    cases hx : s.persons[p]? with
    | none => exact g
    | some x =>
      dsimp only
      split
      · exact g
      · split
        · exact g
        · split
          · exact g
          · rename_i h1 h2 h3
            refine g.puts hx (Nat.zero_le _) ?_ fun _ => .inr ?_
            · split
              · exact Nat.le_refl _
              · exact g.sn x (List.mem_of_getElem? hx)
            · rw [← aboard_len]; exact Nat.not_le.mp h3
  case leave p =>
    unfold chg act
    dsimp only
    cases hx : s.persons[p]? with
    | none => exact g
    | some x =>
      have q : Good (s.puts p (.at_ s.at_) x.since) := g.puts hx g.at_ (g.sn x (List.mem_of_getElem? hx)) (fun q => by cases q)
      dsimp only
      split
      · exact g
      · split
        · exact g
        · split
          · exact g
          · exact q
  case wind l =>
    unfold chg act
    dsimp only
    split
    · exact g
    · rename_i h1
      split
      · exact g
      · split
        · exact g
        · split
          · exact g
          · exact Good.minutes (s := wound s l) (g.other rfl rfl rfl rfl rfl (Nat.not_lt.mp h1) g.lk g.od) _
  case wait n =>
    unfold chg act
    dsimp only
    repeat' split
    · exact g
    · exact g
    · exact g.minutes n
  case fan l o =>
    unfold chg act
    dsimp only
    cases hv : s.level l with
    | none => exact g
    | some v =>
      dsimp only
      repeat' split
      · exact g
      · exact g
      · exact g.lvset (u := { v with fan := o == 1 }) (level_get hv) rfl rfl rfl
  case mine l k =>
    unfold chg act
    dsimp only
    cases hv : s.level l with
    | none => exact g
    | some v =>
      dsimp only
      repeat' split
      · exact g
      · exact g
      · exact g
      · exact (g.lvset (u := { v with heap := v.heap + k }) (level_get hv) rfl rfl rfl).other rfl rfl rfl rfl rfl (by show s.at_ ≤ (s.levels.set _ _).length; rw [List.length_set]; exact g.at_) g.lk g.od
  case load k =>
    unfold chg act
    dsimp only
    cases hv : s.level s.at_ with
    | none => exact g
    | some v =>
      dsimp only
      repeat' split
      · exact g
      · exact g
      · exact g
      · exact g
      · exact (g.lvset (u := { v with heap := v.heap - k }) (level_get hv) rfl rfl rfl).other rfl rfl rfl rfl rfl (by show s.at_ ≤ (s.levels.set _ _).length; rw [List.length_set]; exact g.at_) g.lk g.od
  case dump =>
    unfold chg act
    dsimp only
    repeat' split
    · exact g
    · exact g
    · exact g.other rfl rfl rfl rfl rfl g.at_ g.lk g.od
  case rope n =>
    unfold chg act
    dsimp only
    repeat' split
    · exact g
    · exact g
    · exact g.other rfl rfl rfl rfl rfl g.at_ g.lk g.od
  case lock =>
    unfold chg act
    dsimp only
    split
    · exact g
    · rename_i h1
      have h1 : s.locks.length < 4 := Nat.not_le.mp h1
      refine g.other rfl rfl rfl rfl rfl g.at_ ?_ ?_
      · show (s.locks ++ [(false, false)]).length ≤ 4
        rw [List.length_append]
        exact h1
      · intro x hx
        rcases List.mem_append.mp hx with hx | hx
        · exact g.od x hx
        · rw [List.mem_singleton.mp hx]; decide
  case open_ k e =>
    have q : Good { s with locks := s.locks.set k (e == 0, e == 1) } := by
      refine g.other rfl rfl rfl rfl rfl g.at_ ?_ ?_
      · show (s.locks.set _ _).length ≤ 4
        rw [List.length_set]
        exact g.lk
      · intro y hy
        rcases mem_set hy with hy | rfl
        · exact g.od y hy
        · rintro ⟨h1, h2⟩
          have h1 : e = 0 := by simpa using h1
          have h2 : e = 1 := by simpa using h2
          omega
    unfold chg act
    dsimp only
    cases hx : s.locks[k]? with
    | none => exact g
    | some x =>
      dsimp only
      repeat' split
      all_goals first | exact g | exact q
  case shut k e =>
    have q : Good { s with locks := s.locks.set k (false, false) } := by
      refine g.other rfl rfl rfl rfl rfl g.at_ ?_ ?_
      · show (s.locks.set _ _).length ≤ 4
        rw [List.length_set]
        exact g.lk
      · intro y hy
        rcases mem_set hy with hy | rfl
        · exact g.od y hy
        · decide
    unfold chg act
    dsimp only
    cases hx : s.locks[k]? with
    | none => exact g
    | some x =>
      dsimp only
      repeat' split
      all_goals first | exact g | exact q
end Ms
set_option Elab.async false
set_option linter.all false
namespace Ms
open Km413
/-! ### the list of numbers as calls -/
/-- how many numbers stand behind a call's own -/
def arity (p : Int) : Nat := (PyKm413.shape p).elim 0 (·.1)
theorem shape_small : ∀ m : Nat, m < 30 → (PyKm413.shape (m : Int)).any (fun x => x.2 == 0) = true := by decide
theorem shape_big {p : Int} (h : p < 0 ∨ 29 < p) : PyKm413.shape p = none := by
  unfold PyKm413.shape
  repeat rw [if_neg (by omega)]
theorem shape_rows {p : Int} {n k : Nat} (h : PyKm413.shape p = some (n, k)) : k = 0 ∧ 0 ≤ p ∧ p ≤ 29 := by
  by_cases hp : 0 ≤ p ∧ p ≤ 29
  · obtain ⟨m, rfl⟩ : ∃ m : Nat, p = (m : Int) := ⟨p.toNat, by omega⟩
    have q := shape_small m (by omega)
    rw [h] at q
    exact ⟨by simpa using q, hp⟩
  · rw [shape_big (by omega)] at h
    cases h
theorem dec_step {f : Nat} {p : Int} {r : List Int} {raw : List (List (List Int))} (h : PyFlat.calls PyKm413.shape f (p :: r) = some raw) :
    ∃ n cs f', PyKm413.shape p = some (n, 0) ∧ n ≤ r.length ∧ raw = [p :: r.take n] :: cs ∧ PyFlat.calls PyKm413.shape f' (r.drop n) = some cs := by
  cases f with
  | zero => unfold PyFlat.calls at h; cases h
  | succ f =>
    unfold PyFlat.calls PyFlat.call at h
    cases q : PyKm413.shape p with
    | none => simp only [q] at h; cases h
    | some nk =>
      obtain ⟨n, k⟩ := nk
      obtain ⟨rfl, _⟩ := shape_rows q
      simp only [q] at h
      by_cases hl : r.length < n
      · simp only [hl, if_true] at h
        cases h
      · simp only [hl, if_false] at h
        unfold PyFlat.rows at h
        simp only at h
        cases q2 : PyFlat.calls PyKm413.shape f (r.drop n) with
        | none => simp only [q2] at h; cases h
        | some cs =>
          simp only [q2, Option.some.injEq] at h
          exact ⟨n, cs, f, rfl, by omega, h.symm, q2⟩
theorem dec_nil {f : Nat} {raw : List (List (List Int))} (h : PyFlat.calls PyKm413.shape f [] = some raw) : raw = [] := by
  cases f <;> (unfold PyFlat.calls at h; exact (Option.some.inj h).symm)
/-! ### the calls played -/
abbrev St := Option Desk
abbrev stepN (S : St) (p : Nat) (ks : List Nat) : St × List Int := Km413Neutral.step S [(p : Int) :: ks.map fun (n : Nat) => (n : Int)]
theorem len_0 {l : List Int} (h : some (0, 0) = some (l.length, 0)) : l = [] := List.length_eq_zero_iff.mp (by injection h with h; injection h with h _; exact h.symm)
theorem len_1 {l : List Int} (h : some (1, 0) = some (l.length, 0)) : ∃ x, l = [x] := by
  injection h with h
  injection h with h _
  match l, h with
  | [x], _ => exact ⟨x, rfl⟩
theorem len_2 {l : List Int} (h : some (2, 0) = some (l.length, 0)) : ∃ x y, l = [x, y] := by
  injection h with h
  injection h with h _
  match l, h with
  | [x, y], _ => exact ⟨x, y, rfl⟩
theorem len_3 {l : List Int} (h : some (3, 0) = some (l.length, 0)) : ∃ x y z, l = [x, y, z] := by
  injection h with h
  injection h with h _
  match l, h with
  | [x, y, z], _ => exact ⟨x, y, z, rfl⟩
theorem whole_at : ∀ (m : Nat), m < 30 → ∀ (l : List Int), PyKm413.shape (m : Int) = some (l.length, 0) → PyKm413.whole [(m : Int) :: l] = [(m : Int) :: l]
  | 0, _, l, h => by
    obtain ⟨x, y, z, rfl⟩ := len_3 (l := l) h
    rfl
  | 1, _, l, h => by
    obtain ⟨x, y, z, rfl⟩ := len_3 (l := l) h
    rfl
  | 2, _, l, h => by
    have e := len_0 (l := l) h
    subst e
    rfl
  | 3, _, l, h => by
    obtain ⟨x, rfl⟩ := len_1 (l := l) h
    rfl
  | 4, _, l, h => by
    obtain ⟨x, rfl⟩ := len_1 (l := l) h
    rfl
  | 5, _, l, h => by
    obtain ⟨x, rfl⟩ := len_1 (l := l) h
    rfl
  | 6, _, l, h => by
    obtain ⟨x, rfl⟩ := len_1 (l := l) h
    rfl
  | 7, _, l, h => by
    obtain ⟨x, y, rfl⟩ := len_2 (l := l) h
    rfl
  | 8, _, l, h => by
    obtain ⟨x, y, rfl⟩ := len_2 (l := l) h
    rfl
  | 9, _, l, h => by
    obtain ⟨x, rfl⟩ := len_1 (l := l) h
    rfl
  | 10, _, l, h => by
    have e := len_0 (l := l) h
    subst e
    rfl
  | 11, _, l, h => by
    obtain ⟨x, rfl⟩ := len_1 (l := l) h
    rfl
  | 12, _, l, h => by
    have e := len_0 (l := l) h
    subst e
    rfl
  | 13, _, l, h => by
    obtain ⟨x, y, rfl⟩ := len_2 (l := l) h
    rfl
  | 14, _, l, h => by
    obtain ⟨x, y, rfl⟩ := len_2 (l := l) h
    rfl
  | 15, _, l, h => by
    obtain ⟨x, rfl⟩ := len_1 (l := l) h
    rfl
  | 16, _, l, h => by
    have e := len_0 (l := l) h
    subst e
    rfl
  | 17, _, l, h => by
    obtain ⟨x, rfl⟩ := len_1 (l := l) h
    rfl
  | 18, _, l, h => by
    have e := len_0 (l := l) h
    subst e
    rfl
  | 19, _, l, h => by
    have e := len_0 (l := l) h
    subst e
    rfl
  | 20, _, l, h => by
    have e := len_0 (l := l) h
    subst e
    rfl
  | 21, _, l, h => by
    obtain ⟨x, rfl⟩ := len_1 (l := l) h
    rfl
  | 22, _, l, h => by
    have e := len_0 (l := l) h
    subst e
    rfl
  | 23, _, l, h => by
    obtain ⟨x, rfl⟩ := len_1 (l := l) h
    rfl
  | 24, _, l, h => by
    obtain ⟨x, rfl⟩ := len_1 (l := l) h
    rfl
  | 25, _, l, h => by
    have e := len_0 (l := l) h
    subst e
    rfl
  | 26, _, l, h => by
    have e := len_0 (l := l) h
    subst e
    rfl
  | 27, _, l, h => by
    have e := len_0 (l := l) h
    subst e
    rfl
  | 28, _, l, h => by
    have e := len_0 (l := l) h
    subst e
    rfl
  | 29, _, l, h => by
    have e := len_0 (l := l) h
    subst e
    rfl
  | m + 30, hm, _, _ => absurd hm (by omega)
theorem whole_map : ∀ (raw : List (List (List Int))) (f : Nat) (l : List Int), PyFlat.calls PyKm413.shape f l = some raw → raw.map PyKm413.whole = raw
  | [], _, _, _ => rfl
  | c :: cs, f, l, h => by
    cases l with
    | nil => rw [dec_nil h]; rfl
    | cons p r =>
      obtain ⟨n, cs', f', hs, hn, e, h4⟩ := dec_step h
      injection e with e1 e2
      subst e1 e2
      have ih := whole_map cs f' _ h4
      obtain ⟨_, p0, p1⟩ := shape_rows hs
      obtain ⟨m, rfl⟩ : ∃ m : Nat, p = (m : Int) := ⟨p.toNat, by omega⟩
      rw [List.map_cons, ih, whole_at m (by omega) _ (by rw [hs, List.length_take, Nat.min_eq_left hn])]
theorem told_cons (a : List Int) (r : List (List Int)) : PyFlat.told (a :: r) = ((a.length : Int) :: a) ++ PyFlat.told r := by
  unfold PyFlat.told
  rw [List.flatMap_cons]
/-- from a state on: the calls of the numbers that are left may come, and what is told of them -/
structure Rest (S : St) (ks : List Nat) (out : List Int) : Prop where
  ex : ∃ f raw, PyFlat.calls PyKm413.shape f (ks.map fun (n : Nat) => (n : Int)) = some raw ∧ Km413Neutral.may S raw = true ∧ out = PyFlat.told (PyFlat.played Km413Neutral.step S raw)
theorem Rest.nil {S : St} {out : List Int} (h : Rest S [] out) : out = [] := by
  obtain ⟨f, raw, h1, _, h3⟩ := h.ex
  rw [dec_nil h1] at h3
  exact h3
theorem Rest.cons {S : St} {p : Nat} {ks : List Nat} {out : List Int} (h : Rest S (p :: ks) out) : ∃ n, PyKm413.shape (p : Int) = some (n, 0) ∧ n ≤ ks.length ∧ (stepN S p (ks.take n)).2 ≠ [] ∧
    ∃ out', Rest (stepN S p (ks.take n)).1 (ks.drop n) out' ∧ out = (((stepN S p (ks.take n)).2.length : Nat) : Int) :: (stepN S p (ks.take n)).2 ++ out' := by
  obtain ⟨f, raw, h1, h2, h3⟩ := h.ex
  rw [List.map_cons] at h1
  obtain ⟨n, cs, f', hs, hn, rfl, h4⟩ := dec_step h1
  rw [List.length_map] at hn
  rw [← List.map_take] at h2 h3
  rw [← List.map_drop] at h4
  unfold Km413Neutral.may at h2
  rw [Bool.and_eq_true] at h2
  refine ⟨n, hs, hn, ?_, PyFlat.told (PyFlat.played Km413Neutral.step (stepN S p (ks.take n)).1 cs), ⟨f', cs, h4, h2.2, rfl⟩, ?_⟩
  · intro q
    have := h2.1
    rw [show (Km413Neutral.step S [(p : Int) :: (ks.take n).map fun (n : Nat) => (n : Int)]).2 = [] from q] at this
    cases this
  · rw [h3]
    show PyFlat.told (_ :: _) = _
    rw [told_cons]
theorem rest_start {l : List Int} {ks : List Nat} (e : l = ks.map fun (n : Nat) => (n : Int)) (h : PyKm413.answers_asked l = true) : Rest none ks (PyKm413.answers l) ∧ (PyKm413.answers l).length ≤ 10000000 := by
  unfold PyKm413.answers_asked at h
  cases q : PyFlat.calls PyKm413.shape l.length l with
  | none => rw [q] at h; cases h
  | some raw =>
    rw [q] at h
    simp only [Bool.and_eq_true] at h
    obtain ⟨⟨⟨⟨_, _⟩, _⟩, ha⟩, hs⟩ := h
    rw [whole_map raw _ _ q] at ha
    unfold Km413Neutral.asked at ha
    simp only [Bool.and_eq_true] at ha
    obtain ⟨_, _, _, hm⟩ := ha
    refine ⟨⟨l.length, raw, by rw [← e]; exact q, hm, ?_⟩, ?_⟩
    · unfold PyKm413.answers PyKm413.calls
      rw [q]
      show PyFlat.told (PyFlat.played Km413Neutral.step Km413Neutral.start (raw.map PyKm413.whole)) = _
      rw [whole_map raw _ _ q]
      rfl
    · unfold PyFlat.short at hs
      exact of_decide_eq_true hs
end Ms
set_option Elab.async false
set_option linter.all false
set_option maxRecDepth 100000
set_option maxHeartbeats 1000000
/-! ### rules that the layer lacks: sorted(.., reverse=True), a call of a def that stands at a name of the frame, a comprehension by its items -/
namespace Ms
open PySem PySem.Spec PyProof.Rows L2
theorem bootSorted : bootBuiltins "sorted" = some (.builtin "sorted") := by decide +kernel
theorem bootSum : bootBuiltins "sum" = some (.builtin "sum") := by decide +kernel
theorem bootAny : bootBuiltins "any" = some (.builtin "any") := by decide +kernel
theorem bootMax : bootBuiltins "max" = some (.builtin "max") := by decide +kernel
theorem bootAbs : bootBuiltins "abs" = some (.builtin "abs") := by decide +kernel
theorem bootList : bootBuiltins "list" = some (.type "list") := by decide +kernel
theorem bootLen : bootBuiltins "len" = some (.builtin "len") := by decide +kernel
section
variable {X : Cx}
/-- falling -/
def rSortedR (K : PySem.W.Frag) : List V → Hp → VK → Prop := fun vs H Q => ∃ (a : Addr) (ns : List Int), vs = [V.ref a] ∧ SqL K H a (ns.map V.int) ∧ ns.length < 64 ∧
  ∀ (ns' : List Int) (p : Addr), ns'.Perm ns → ns'.Pairwise (fun x y => x ≥ y) → H p = none → Q (.ref p) (upd H p (.lst (ns'.map V.int)))
theorem pe_sortedR {e : Expr} {t : TA} {p pos kp cp : Pos} {j : Nat} (hg : Gl X "sorted") (hm : X.mg "sorted" = none) (ha : PA X [e] t)
    (he : backTo pos (starEach [e] X.env) = (false, eval e X.env) :: backTo pos (starEach [] X.env) := by rfl) (hpl : (backTo pos (starEach [e] X.env)).any (·.1) = false := by rfl) :
    PE X (.Call (.Name "sorted" p) [e] [⟨some "reverse", .Constant (.bool true) j cp, kp⟩] pos) (tCB (rSortedR X.K) t) := by
  intro pins s σ H Q I h
  refine wpAny_Call_Name_kw (ld_blt I hg hm bootSorted ?_)
  refine callWith_kw (thn (ha pos pins s σ H _ I h) fun us s1 ⟨vs, H1, I1, r, q⟩ => ?_) he hpl
  refine kws_cons (Constant_bool (kws_nil ?_))
  obtain ⟨a, ns, rfl, hs, h64, q⟩ := q
  obtain ⟨its, rv, hl, _⟩ := I1.list hs
  rw [Vals.ref1 r]
  have hi := rv.ints
  refine PyProof.Rows.sorted_ints_rev (b := true) hl.isList hi (by rw [hi.length]; exact h64) fun out ns' h1 h2 h3 => ?_
  obtain ⟨ep, he'⟩ := PyProof.Rows.sortedAll_at s1.heap its out
  have hlen : (ns'.map V.int).length ≤ sizeLine := by rw [List.length_map, h2.length_eq]; exact small64 h64
  exact ⟨.ref _, upd H1 (s1.heap.objs.size + 1) (.lst (ns'.map V.int)), I1.laid (t' := s1.toks) (fun _ _ => PyProof.Rows.sortedAll_old) (Nat.le_succ _) ⟨hlen, out.toList, ep, vals_of_ints h1, he'⟩, rfl, q ns' _ h2 h3 (I1.hok.fresh (Nat.le_succ _))⟩
/-- a def whose address stands in a slot of the frame is called -/
def tCallV (X : Cx) (i : Nat) (t : TA) : TE := fun σ H Q => ∃ f, σ[i]? = some (some (V.ref f)) ∧ PySem.W.keepIn X.K (.ref f) = true ∧
  t σ H fun vs H1 => ∃ (k : Nat) (fd : FuncData) (ps : List Str) (sp : Sp), FnOk X.prog X.w X.K X.mg X.base CX0 k f fd ps sp ∧ Room k X.A ∧ Binds X.K fd ps [] ∧ sp vs H1 Q E0
theorem pe_callV (i : Nat) {x : Str} {e : Expr} {es : List Expr} {t : TA} {p pos : Pos} (ha : PA X (e :: es) t) (hN : X.N[i]? = some x := by rfl)
    (hv : Vis X.env.scope x := by first | exact Or.inl rfl | exact Or.inr (Or.inl rfl) | exact Or.inr (Or.inr rfl)) (hd : (x == ("__debug__" : Str)) = false := by decide) (hcd : (x == ("__classdict__" : Str)) = false := by decide)
    (he : starEach (e :: es) X.env = (false, eval e X.env) :: starEach es X.env := by rfl) (hpl : (backTo pos (starEach es X.env)).any (·.1) = false := by rfl) :
    PE X (.Call (.Name x p) (e :: es) [] pos) (tCallV X i t) := by
  intro pins s σ H Q I h
  obtain ⟨f, hf, hk, h⟩ := h
  refine wpAny_Call_Name_kw (thn (pe_var (pos := p) hN hv hd hcd pins s σ H (fun v H' => v = V.ref f ∧ H' = H) I ⟨_, hf, rfl, rfl⟩) fun u s0 ⟨v, H0, I0, r0, ev, eH⟩ => ?_)
  subst ev eH
  obtain rfl : u = Value.ref f := r0
  refine PySem.W.callWith_K (h₀ := X.base) I.ok.mod.kin hk (thn (ha pos pins s0 σ _ _ I0 h) fun us s1 ⟨vs, H1, I1, r, k, fd, ps, sp, F, hr, hb, q⟩ => ⟨I1.kIn, ?_⟩) he hpl
  exact run_fn (dvs := []) F hr hb .nil pass0 I1 r (by rw [List.append_nil]; exact q)
/-- an int that the file's top gives to a name -/
def Cst (mg : Str → Option Value) (nm : Str) (z : Int) : Prop := ∃ t, mg nm = some (Value.int z t)
theorem pe_cst {nm : Str} {z : Int} {pos : Pos} (c : Cst X.mg nm z) (hg : Gl X nm) (hd : (nm == ("__debug__" : Str)) = false := by decide) : PE X (.Name nm pos) (tC (.int z)) := by
  obtain ⟨t, h⟩ := c
  exact pe_glob hg h ⟨t, rfl⟩ hd
/-- a def that is known -/
structure Kn (P : Program) (w : World) (K : PySem.W.Frag) (mg : Str → Option Value) (base : Heap) (k : Nat) (nm : Str) (ps : List Str) (sp : Sp) (f : Addr) (fd : FuncData) : Prop where
  ok : FnOk P w K mg base CX0 k f fd ps sp
  mg : mg nm = some (.ref f)
  kp : PySem.W.keepIn K (.ref f) = true
  bd : Binds K fd ps []
theorem pe_fn {k : Nat} {nm : Str} {ps : List Str} {sp : Sp} {f : Addr} {fd : FuncData} {e : Expr} {es : List Expr} {t : TA} {p pos : Pos} (G : Kn X.prog X.w X.K X.mg X.base k nm ps sp f fd) {k' : Nat} (hr : Room k' X.A) (ha : PA X (e :: es) t)
    (hg : Gl X nm := by rfl) (hk : k ≤ k' := by decide) (hdb : (nm == ("__debug__" : Str)) = false := by decide) (he : starEach (e :: es) X.env = (false, eval e X.env) :: starEach es X.env := by rfl) (hpl : (backTo pos (starEach es X.env)).any (·.1) = false := by rfl) :
    PE X (.Call (.Name nm p) (e :: es) [] pos) (tCall sp [] E0 t) := pe_call G.ok (hr.mono hk) hg G.mg G.kp G.bd .nil pass0 ha hdb he hpl
/-- a class that is known -/
structure Kc (P : Program) (w : World) (K : PySem.W.Frag) (mg : Str → Option Value) (base : Heap) (k : Nat) (nm : Str) (ps : List Str) (sp : Sp) (C f : Addr) (fd : FuncData) : Prop where
  ok : FnOk P w K mg base CX0 k f fd ps sp
  mg : mg nm = some (.ref C)
  mc : Mk K C f
  bd : Binds K fd ps []
theorem pe_new {k : Nat} {nm : Str} {ps : List Str} {sp : Sp} {C f : Addr} {fd : FuncData} {e : Expr} {es : List Expr} {t : TA} {p pos : Pos} (G : Kc X.prog X.w X.K X.mg X.base k nm ps sp C f fd) {k' : Nat} (hr : Room k' X.A) (ha : PA X (e :: es) t)
    (hg : Gl X nm := by rfl) (hk : k + 1 ≤ k' := by decide) (hdb : (nm == ("__debug__" : Str)) = false := by decide) (he : starEach (e :: es) X.env = (false, eval e X.env) :: starEach es X.env := by rfl) (hpl : (backTo pos (starEach es X.env)).any (·.1) = false := by rfl) :
    PE X (.Call (.Name nm p) (e :: es) [] pos) (tMake C sp [] E0 t) := pe_make G.mc G.ok (hr.mono hk) hg G.mg G.bd .nil pass0 ha hdb he hpl
theorem pe_new0 {k : Nat} {nm : Str} {ps : List Str} {sp : Sp} {C f : Addr} {fd : FuncData} {p pos : Pos} (G : Kc X.prog X.w X.K X.mg X.base k nm ps sp C f fd) {k' : Nat} (hr : Room k' X.A)
    (hg : Gl X nm := by rfl) (hk : k + 1 ≤ k' := by decide) (hdb : (nm == ("__debug__" : Str)) = false := by decide) :
    PE X (.Call (.Name nm p) [] [] pos) (tMake C sp [] E0 tNil) := pe_make0 G.mc G.ok (hr.mono hk) hg G.mg G.bd .nil pass0 hdb
end
/-! ### comprehensions over a list, by their items -/
theorem Same.upd_new {H : Hp} {a : Addr} {o : HO} (h : H a = none) : Same H (upd H a o) := fun b u e => by
  rw [upd_ne (ne_of_none e h)]
  exact e
theorem filter_snoc {α : Type} (p : α → Bool) {l : List α} {i : Nat} {x : α} (h : l[i]? = some x) : (l.take (i + 1)).filter p = if p x = true then (l.take i).filter p ++ [x] else (l.take i).filter p := by
  rw [List.take_add_one, h, List.filter_append]
  cases q : p x <;> simp [q]
/-- plain values: those of ys that p takes, by f -/
theorem lc_fm {β : Type} {K : PySem.W.Frag} {a : Addr} {xs : List V} {i : Nat} {tt : TT} {te : TE} {vs : List Nat} {σ : L2.St} {H1 : Hp} {D : Addr} {Qd : Hp → Prop} (ys : List β) (p : β → Bool) (f : β → V)
    (hl : SqL K H1 a xs) (hn : xs.length = ys.length) (hz : ys.length < sizeLine) (hD : H1 D = none) (hw : ∀ x, wipe ((wipe σ vs).set i (some x)) vs = wipe σ vs)
    (ht : ∀ (j : Nat) (x : V) (y : β) (H : Hp) (k : Bool → Hp → Prop), xs[j]? = some x → ys[j]? = some y → Same H1 H → (∀ H3, Same H H3 → k (p y) H3) → tt ((wipe σ vs).set i (some x)) H k)
    (he : ∀ (j : Nat) (x : V) (y : β) (H : Hp) (k : V → Hp → Prop), xs[j]? = some x → ys[j]? = some y → p y = true → Same H1 H → (∀ H4, Same H H4 → k (f y) H4) → te ((wipe σ vs).set i (some x)) H k)
    (hd : ∀ H, Same H1 H → H D = some (.lst ((ys.filter p).map f)) → Qd H) :
    ∃ W : Nat → Nat → Hp → Prop, (∃ m, W 0 m (upd H1 D (.lst []))) ∧ ∀ i' m H, W i' m H →
      ((Itl K a).stop i' H ∧ Qd H) ∨ ((Itl K a).go i' H ∧ ∃ Nx : Hp → Prop, (∀ H', Nx H' → ∃ m', m' < m ∧ W (i' + 1) m' H') ∧ ∀ x H', (Itl K a).yld i' H x H' → gName i x (wipe σ vs) H' fun σ2 H2 => wipe σ2 vs = wipe σ vs ∧ tt σ2 H2 fun b H3 =>
        if b = true then te σ2 H3 fun y H4 => ∃ acc, H4 D = some (.lst acc) ∧ acc.length < sizeLine ∧ Nx (upd H4 D (.lst (acc ++ [y]))) else Nx H3) := by
  refine lc_list (K := K) (a := a) (xs := xs) (g := gName i) (fun j H => Same H1 H ∧ H D = some (.lst (((ys.take j).filter p).map f))) ⟨Same.upd_new hD, upd_same⟩ (fun j H _ h => Same.seq h.1 hl) ?_ ?_
  · rintro j x H hx ⟨hs, hacc⟩
    have hj : j < ys.length := by rw [← hn]; exact (List.getElem?_eq_some_iff.mp hx).1
    have hy : ys[j]? = some ys[j] := List.getElem?_eq_getElem hj
    refine ⟨hw x, ht j x _ H _ hx hy hs fun H3 s3 => ?_⟩
    have e := filter_snoc p hy
    cases q : p ys[j] with
    | true =>
      rw [q, if_pos rfl] at e
      rw [if_pos rfl]
      refine he j x _ H3 _ hx hy q (Same.trans hs s3) fun H4 s4 => ?_
      refine ⟨_, s4 _ _ (s3 _ _ hacc), ?_, ?_, ?_⟩
      · rw [List.length_map]
        have h1 : ((ys.take j).filter p).length ≤ (ys.take j).length := List.length_filter_le _ _
        have h2 : (ys.take j).length ≤ ys.length := by rw [List.length_take]; exact Nat.min_le_right _ _
        omega
      · intro b o eb
        rw [upd_ne (ne_of_none eb hD)]
        exact s4 _ _ (s3 _ _ (hs _ _ eb))
      · rw [upd_same, e, List.map_append]
        rfl
    | false =>
      rw [q, if_neg (by decide)] at e
      rw [if_neg (by decide)]
      refine ⟨Same.trans hs s3, ?_⟩
      rw [e]
      exact s3 _ _ hacc
  · rintro H ⟨hs, hacc⟩
    rw [hn, List.take_length] at hacc
    exact hd H hs hacc
/-- pairs by their places -/
structure Al {α β : Type} (F : α → β → Prop) (l : List α) (m : List β) : Prop where
  len : l.length = m.length
  at_ : ∀ (i : Nat) (a : α) (b : β), l[i]? = some a → m[i]? = some b → F a b
section
variable {α β : Type} {F G : α → β → Prop} {l : List α} {m : List β}
theorem Al.nil : Al F [] [] := ⟨rfl, fun i a b h => by simp at h⟩
theorem Al.get (A : Al F l m) {i : Nat} {a : α} (h : l[i]? = some a) : ∃ b, m[i]? = some b ∧ F a b := by
  have hi : i < m.length := by rw [← A.len]; exact (List.getElem?_eq_some_iff.mp h).1
  exact ⟨m[i], List.getElem?_eq_getElem hi, A.at_ i a _ h (List.getElem?_eq_getElem hi)⟩
theorem Al.get' (A : Al F l m) {i : Nat} {b : β} (h : m[i]? = some b) : ∃ a, l[i]? = some a ∧ F a b := by
  have hi : i < l.length := by rw [A.len]; exact (List.getElem?_eq_some_iff.mp h).1
  exact ⟨l[i], List.getElem?_eq_getElem hi, A.at_ i _ b (List.getElem?_eq_getElem hi) h⟩
theorem Al.keep (A : Al F l m) (h : ∀ a ∈ l, ∀ b, F a b → G a b) : Al G l m := ⟨A.len, fun i a b ha hb => h a (List.mem_of_getElem? ha) b (A.at_ i a b ha hb)⟩
theorem Al.snoc (A : Al F l m) {a : α} {b : β} (h : F a b) : Al F (l ++ [a]) (m ++ [b]) := by
  refine ⟨by rw [List.length_append, List.length_append, A.len]; rfl, fun i x y hx hy => ?_⟩
  by_cases hi : i < l.length
  · rw [List.getElem?_append_left hi] at hx
    rw [List.getElem?_append_left (by rw [← A.len]; exact hi)] at hy
    exact A.at_ i x y hx hy
  · have e : i = l.length := by
      have := (List.getElem?_eq_some_iff.mp hx).1
      rw [List.length_append] at this
      simp at this
      omega
    subst e
    rw [List.getElem?_concat_length] at hx
    rw [A.len, List.getElem?_concat_length] at hy
    cases hx
    cases hy
    exact h
theorem Al.cons {a : α} {b : β} (h : F a b) (A : Al F l m) : Al F (a :: l) (b :: m) := by
  refine ⟨by rw [List.length_cons, List.length_cons, A.len], fun i x y hx hy => ?_⟩
  cases i with
  | zero =>
    cases hx
    cases hy
    exact h
  | succ i => exact A.at_ i x y (by simpa using hx) (by simpa using hy)
/-- one changes, the others stay -/
theorem Al.set (A : Al F l m) (nd : l.Nodup) {i : Nat} {a : α} {b : β} (hi : l[i]? = some a) (hb : G a b) (ho : ∀ x ∈ l, x ≠ a → ∀ y, F x y → G x y) : Al G l (m.set i b) := by
  refine ⟨by rw [List.length_set]; exact A.len, fun j x y hx hy => ?_⟩
  by_cases e : j = i
  · subst e
    have ex : a = x := by rw [hi] at hx; exact Option.some.inj hx
    subst ex
    rw [List.getElem?_set_self (by rw [← A.len]; exact (List.getElem?_eq_some_iff.mp hi).1)] at hy
    cases hy
    exact hb
  · rw [List.getElem?_set_ne (fun q => e q.symm)] at hy
    exact ho x (List.mem_of_getElem? hx) (fun q => e (nd_ix nd hx (by rw [q]; exact hi))) y (A.at_ j x y hx hy)
end
/-- a new thing for each -/
theorem lc_new {β : Type} {K : PySem.W.Frag} {a : Addr} {xs : List V} {i : Nat} {te : TE} {vs : List Nat} {σ : L2.St} {H1 : Hp} {D : Addr} {Qd : Hp → Prop} (ys : List β) (F : Hp → Addr → β → Prop)
    (hF : ∀ H H' r y, H' r = H r → F H r y → F H' r y) (hS : ∀ H r y, F H r y → ∃ o, H r = some o)
    (hl : SqL K H1 a xs) (hn : xs.length = ys.length) (hz : ys.length < sizeLine) (hD : H1 D = none) (hw : ∀ x, wipe ((wipe σ vs).set i (some x)) vs = wipe σ vs)
    (he : ∀ (j : Nat) (x : V) (y : β) (H : Hp) (k : V → Hp → Prop), xs[j]? = some x → ys[j]? = some y → Same H1 H → (∀ H4 r, Same H H4 → H r = none → F H4 r y → k (V.ref r) H4) → te ((wipe σ vs).set i (some x)) H k)
    (hd : ∀ H rs, Same H1 H → H D = some (.lst (rs.map V.ref)) → Al (F H) rs ys → rs.Nodup → (∀ r ∈ rs, H1 r = none ∧ r ≠ D) → Qd H) :
    ∃ W : Nat → Nat → Hp → Prop, (∃ m, W 0 m (upd H1 D (.lst []))) ∧ ∀ i' m H, W i' m H →
      ((Itl K a).stop i' H ∧ Qd H) ∨ ((Itl K a).go i' H ∧ ∃ Nx : Hp → Prop, (∀ H', Nx H' → ∃ m', m' < m ∧ W (i' + 1) m' H') ∧ ∀ x H', (Itl K a).yld i' H x H' → gName i x (wipe σ vs) H' fun σ2 H2 => wipe σ2 vs = wipe σ vs ∧ tYes σ2 H2 fun b H3 =>
        if b = true then te σ2 H3 fun y H4 => ∃ acc, H4 D = some (.lst acc) ∧ acc.length < sizeLine ∧ Nx (upd H4 D (.lst (acc ++ [y]))) else Nx H3) := by
  refine lc_list (K := K) (a := a) (xs := xs) (g := gName i) (fun j H => Same H1 H ∧ ∃ rs : List Addr, H D = some (.lst (rs.map V.ref)) ∧ Al (F H) rs (ys.take j) ∧ rs.Nodup ∧ ∀ r ∈ rs, H1 r = none ∧ r ≠ D)
    ⟨Same.upd_new hD, [], upd_same, by rw [List.take_zero]; exact Al.nil, List.nodup_nil, fun r hr => absurd hr List.not_mem_nil⟩ (fun j H _ h => Same.seq h.1 hl) ?_ ?_
  · rintro j x H hx ⟨hs, rs, hacc, hal, hnd, hfr⟩
    have hj : j < ys.length := by rw [← hn]; exact (List.getElem?_eq_some_iff.mp hx).1
    have hy : ys[j]? = some ys[j] := List.getElem?_eq_getElem hj
    refine ⟨hw x, ?_⟩
    unfold tYes
    dsimp only
    rw [if_pos rfl]
    refine he j x _ H _ hx hy hs fun H4 r s4 hr hf => ?_
    have hrD : r ≠ D := fun q => by rw [q, hacc] at hr; cases hr
    have hrl : rs.length = j := by rw [hal.len, List.length_take]; omega
    refine ⟨_, s4 _ _ hacc, by rw [List.length_map]; omega, ?_, rs ++ [r], ?_, ?_, ?_, ?_⟩
    · intro b o eb
      rw [upd_ne (ne_of_none eb hD)]
      exact s4 _ _ (hs _ _ eb)
    · rw [upd_same, List.map_append]
      rfl
    · rw [List.take_add_one, hy]
      refine Al.snoc (Al.keep hal fun q hq y hqy => ?_) (hF _ _ _ _ (upd_ne hrD) hf)
      obtain ⟨o, ho⟩ := hS _ _ _ hqy
      refine hF H _ q y ?_ hqy
      rw [upd_ne (hfr q hq).2, ho]
      exact s4 _ _ ho
    · rw [List.nodup_append]
      refine ⟨hnd, by simp, fun q hq z hz2 => ?_⟩
      rw [List.mem_singleton.mp hz2]
      intro e
      subst e
      obtain ⟨n, hn1, hn2⟩ := List.mem_iff_getElem.mp hq
      obtain ⟨y, _, hqy⟩ := hal.get (show rs[n]? = some q by rw [List.getElem?_eq_getElem hn1, hn2])
      obtain ⟨o, ho⟩ := hS _ _ _ hqy
      rw [ho] at hr
      cases hr
    · intro q hq
      rcases List.mem_append.mp hq with hq | hq
      · exact hfr q hq
      · rw [List.mem_singleton.mp hq]
        exact ⟨hs.free hr, hrD⟩
  · rintro H ⟨hs, rs, hacc, hal, hnd, hfr⟩
    rw [hn, List.take_length] at hal
    exact hd H rs hs hacc hal hnd hfr
/-- over a range with a step: a new thing for each -/
theorem lc_stepNew {β : Type} {lo c : Int} {n : Nat} {i : Nat} {te : TE} {vs : List Nat} {σ : L2.St} {H1 : Hp} {D : Addr} {Qd : Hp → Prop} (ys : List β) (F : Hp → Addr → β → Prop)
    (hF : ∀ H H' r y, H' r = H r → F H r y → F H' r y) (hS : ∀ H r y, F H r y → ∃ o, H r = some o)
    (hn : n = ys.length) (hz : ys.length < sizeLine) (hD : H1 D = none) (hw : ∀ x, wipe ((wipe σ vs).set i (some x)) vs = wipe σ vs)
    (he : ∀ (j : Nat) (y : β) (H : Hp) (k : V → Hp → Prop), ys[j]? = some y → Same H1 H → (∀ H4 r, Same H H4 → H r = none → F H4 r y → k (V.ref r) H4) → te ((wipe σ vs).set i (some (V.int (lo + (j : Nat) * c)))) H k)
    (hd : ∀ H rs, Same H1 H → H D = some (.lst (rs.map V.ref)) → Al (F H) rs ys → Qd H) :
    ∃ W : Nat → Nat → Hp → Prop, (∃ m, W 0 m (upd H1 D (.lst []))) ∧ ∀ i' m H, W i' m H →
      ((Itc lo c n).stop i' H ∧ Qd H) ∨ ((Itc lo c n).go i' H ∧ ∃ Nx : Hp → Prop, (∀ H', Nx H' → ∃ m', m' < m ∧ W (i' + 1) m' H') ∧ ∀ x H', (Itc lo c n).yld i' H x H' → gName i x (wipe σ vs) H' fun σ2 H2 => wipe σ2 vs = wipe σ vs ∧ tYes σ2 H2 fun b H3 =>
        if b = true then te σ2 H3 fun y H4 => ∃ acc, H4 D = some (.lst acc) ∧ acc.length < sizeLine ∧ Nx (upd H4 D (.lst (acc ++ [y]))) else Nx H3) := by
  refine ⟨fun j m H => m = n - j ∧ j ≤ n ∧ Same H1 H ∧ ∃ rs : List Addr, H D = some (.lst (rs.map V.ref)) ∧ Al (F H) rs (ys.take j) ∧ ∀ r ∈ rs, r ≠ D,
    ⟨n, by simp, Nat.zero_le _, Same.upd_new hD, [], upd_same, by rw [List.take_zero]; exact Al.nil, fun r hr => absurd hr List.not_mem_nil⟩, ?_⟩
  rintro j m H ⟨rfl, hi, hs, rs, hacc, hal, hfr⟩
  by_cases hlt : j < n
  · refine .inr ⟨hlt, fun H' => Same H1 H' ∧ ∃ rs : List Addr, H' D = some (.lst (rs.map V.ref)) ∧ Al (F H') rs (ys.take (j + 1)) ∧ ∀ r ∈ rs, r ≠ D, fun H' p' => ⟨n - (j + 1), by omega, rfl, hlt, p'⟩, fun x H' y => ?_⟩
    obtain ⟨e, y⟩ := y
    subst e y
    have hj : j < ys.length := by rw [← hn]; exact hlt
    have hy : ys[j]? = some ys[j] := List.getElem?_eq_getElem hj
    refine ⟨hw _, ?_⟩
    unfold tYes
    dsimp only
    rw [if_pos rfl]
    refine he j _ _ _ hy hs fun H4 r s4 hr hf => ?_
    have hrD : r ≠ D := fun q => by rw [q, hacc] at hr; cases hr
    have hrl : rs.length = j := by rw [hal.len, List.length_take]; omega
    refine ⟨_, s4 _ _ hacc, by rw [List.length_map]; omega, ?_, rs ++ [r], ?_, ?_, ?_⟩
    · intro b o eb
      rw [upd_ne (ne_of_none eb hD)]
      exact s4 _ _ (hs _ _ eb)
    · rw [upd_same, List.map_append]
      rfl
    · rw [List.take_add_one, hy]
      refine Al.snoc (Al.keep hal fun q hq y hqy => ?_) (hF _ _ _ _ (upd_ne hrD) hf)
      obtain ⟨o, ho⟩ := hS _ _ _ hqy
      refine hF _ _ q y ?_ hqy
      rw [upd_ne (hfr q hq), ho]
      exact s4 _ _ ho
    · intro q hq
      rcases List.mem_append.mp hq with hq | hq
      · exact hfr q hq
      · rw [List.mem_singleton.mp hq]
        exact hrD
  · have e : j = n := by omega
    subst e
    rw [hn, List.take_length] at hal
    exact .inl ⟨Nat.le_refl _, hd H rs hs hacc hal⟩
end Ms
set_option Elab.async false
set_option linter.all false
set_option maxRecDepth 100000
set_option maxHeartbeats 1000000
/-! ### a comprehension over enumerate(list) -/
namespace Ms
open PySem PySem.Spec PyProof.Rows L2
theorem range_snoc (P : Nat → Bool) (j : Nat) : (List.range (j + 1)).filter P = if P j = true then (List.range j).filter P ++ [j] else (List.range j).filter P := by
  rw [List.range_succ, List.filter_append]
  cases q : P j <;> simp [q]
/-- the two names of a turn: its number, its item -/
abbrev gTwo (K : PySem.W.Frag) (i1 i2 : Nat) : TG := gTup K 2 (gCons (gName i1) (gCons (gName i2) gNil))
/-- of the places those that P takes, by f -/
theorem lc_en {β : Type} {K : PySem.W.Frag} {a : Addr} {xs : List V} {i1 i2 : Nat} {tt : TT} {te : TE} {vs : List Nat} {σ : L2.St} {H1 : Hp} {D : Addr} {Qd : Hp → Prop} (ys : List β) (P : Nat → Bool) (f : Nat → V)
    (hl : SqL K H1 a xs) (hn : xs.length = ys.length) (hz : ys.length < sizeLine) (hD : H1 D = none) (hw : ∀ x y, wipe (((wipe σ vs).set i1 (some x)).set i2 (some y)) vs = wipe σ vs)
    (ht : ∀ (j : Nat) (x : V) (y : β) (H : Hp) (k : Bool → Hp → Prop), xs[j]? = some x → ys[j]? = some y → Same H1 H → (∀ H3, Same H H3 → k (P j) H3) → tt (((wipe σ vs).set i1 (some (V.int ((j : Nat) : Int)))).set i2 (some x)) H k)
    (he : ∀ (j : Nat) (x : V) (y : β) (H : Hp) (k : V → Hp → Prop), xs[j]? = some x → ys[j]? = some y → P j = true → Same H1 H → (∀ H4, Same H H4 → k (f j) H4) → te (((wipe σ vs).set i1 (some (V.int ((j : Nat) : Int)))).set i2 (some x)) H k)
    (hd : ∀ H, Same H1 H → H D = some (.lst (((List.range ys.length).filter P).map f)) → Qd H) :
    ∃ W : Nat → Nat → Hp → Prop, (∃ m, W 0 m (upd H1 D (.lst []))) ∧ ∀ i' m H, W i' m H →
      ((Ite K a).stop i' H ∧ Qd H) ∨ ((Ite K a).go i' H ∧ ∃ Nx : Hp → Prop, (∀ H', Nx H' → ∃ m', m' < m ∧ W (i' + 1) m' H') ∧ ∀ x H', (Ite K a).yld i' H x H' → gTwo K i1 i2 x (wipe σ vs) H' fun σ2 H2 => wipe σ2 vs = wipe σ vs ∧ tt σ2 H2 fun b H3 =>
        if b = true then te σ2 H3 fun y H4 => ∃ acc, H4 D = some (.lst acc) ∧ acc.length < sizeLine ∧ Nx (upd H4 D (.lst (acc ++ [y]))) else Nx H3) := by
  have ld : ∀ j : Nat, j ≤ ys.length → (((List.range j).filter P).map f).length ≤ ys.length := fun j hj => by
    rw [List.length_map]
    have := List.length_filter_le P (List.range j)
    rw [List.length_range] at this
    omega
  refine ⟨fun j m H => m = ys.length - j ∧ j ≤ ys.length ∧ Same H1 H ∧ H D = some (.lst (((List.range j).filter P).map f)), ⟨ys.length, by simp, Nat.zero_le _, Same.upd_new hD, upd_same⟩, ?_⟩
  rintro j m H ⟨rfl, hj, hs, hacc⟩
  have q : SqL K H a xs := Same.seq hs hl
  by_cases hlt : j < ys.length
  · have hy : ys[j]? = some ys[j] := List.getElem?_eq_getElem hlt
    have hx0 : j < xs.length := by omega
    refine .inr ⟨⟨xs, xs[j], q, List.getElem?_eq_getElem hx0⟩, fun H' => Same H1 H' ∧ H' D = some (.lst (((List.range (j + 1)).filter P).map f)), fun H' p' => ⟨ys.length - (j + 1), by omega, rfl, hlt, p'⟩, ?_⟩
    rintro v H' ⟨T, x, rfl, hT, rfl, hx⟩
    have hx := hx xs q
    have sT : Same H (upd H T (.tup [.int ((j : Nat) : Int), x])) := Same.upd_new hT
    refine ⟨T, _, rfl, SqT.of upd_same, rfl, _, _, rfl, _, _, rfl, rfl, hw _ _, ?_⟩
    refine ht j x _ _ _ hx hy (hs.trans sT) fun H3 s3 => ?_
    have s13 := (hs.trans sT).trans s3
    have a3 := s3 _ _ (sT _ _ hacc)
    have e := range_snoc P j
    cases z : P j with
    | true =>
      rw [z, if_pos rfl] at e
      rw [if_pos rfl]
      refine he j x _ H3 _ hx hy z s13 fun H4 s4 => ?_
      refine ⟨_, s4 _ _ a3, Nat.lt_of_le_of_lt (ld j hj) hz, ?_, ?_⟩
      · intro b o eb
        rw [upd_ne (ne_of_none eb hD)]
        exact s4 _ _ (s13 _ _ eb)
      · rw [upd_same, e, List.map_append]
        rfl
    | false =>
      rw [z, if_neg (by decide)] at e
      rw [if_neg (by decide)]
      refine ⟨s13, ?_⟩
      rw [e]
      exact a3
  · have e : j = ys.length := by omega
    subst e
    exact .inl ⟨⟨xs, q, by omega⟩, hd H hs hacc⟩
end Ms
set_option Elab.async false
set_option linter.all false
set_option maxRecDepth 100000
set_option maxHeartbeats 1000000
/-! ### the data: levels, persons, a shaft at its place; a shaft that is new beside another heap -/
namespace Ms
open PySem PySem.Spec PyProof.Rows L2
abbrev Shf := Km413.Shaft
abbrev Lev := Km413.Level
abbrev Per := Km413.Person
abbrev vN (n : Nat) : V := V.int (n : Int)
/-- the classes -/
structure Ad where
  L : Addr
  P : Addr
  S : Addr
  Hi : Addr
def b2n (b : Bool) : Nat := if b = true then 1 else 0
def v0 : Lev := ⟨0, 0, 0, false, 0, 0⟩
def lvF (v : Lev) : List (Str × V) := [("depth", vN v.depth), ("rate", vN v.rate), ("clears", vN v.clear), ("fan", vN (b2n v.fan)), ("gas", vN v.gas), ("ore", vN v.heap)]
def psF (x : Per) : List (Str × V) := [("place", vN (pl x)), ("since", vN x.since)]
/-- where a shaft's parts stand -/
structure Ow where
  dx : Addr
  la : Addr
  pa : Addr
  ka : Addr
  ls : List Addr
  ps : List Addr
  ks : List Addr
def shF (s : Shf) (o : Ow) : List (Str × V) := [("room", vN s.room), ("rope", vN s.rope), ("speed", vN s.speed), ("worn", vN s.worn), ("minute", vN s.time), ("levels", .ref o.la), ("persons", .ref o.pa), ("cage", vN s.at_), ("tub", vN s.tub), ("dumped", vN s.bin), ("mined", vN s.mined), ("locks", .ref o.ka)]
def LvAt (C : Ad) (H : Hp) (a : Addr) (v : Lev) : Prop := ∃ dx, H a = some (.ins C.L dx (lvF v))
def PsAt (C : Ad) (H : Hp) (a : Addr) (x : Per) : Prop := ∃ dx, H a = some (.ins C.P dx (psF x))
def LkAt (H : Hp) (a : Addr) (b : Bool × Bool) : Prop := H a = some (.lst [.bl b.1, .bl b.2])
structure ShAt (C : Ad) (H : Hp) (a : Addr) (s : Shf) (o : Ow) : Prop where
  me : H a = some (.ins C.S o.dx (shF s o))
  la : H o.la = some (.lst (o.ls.map V.ref))
  pa : H o.pa = some (.lst (o.ps.map V.ref))
  ka : H o.ka = some (.lst (o.ks.map V.ref))
  lv : Al (LvAt C H) o.ls (v0 :: s.levels)
  ps : Al (PsAt C H) o.ps s.persons
  lk : Al (LkAt H) o.ks s.locks
  nl : o.ls.Nodup
  np : o.ps.Nodup
  nk : o.ks.Nodup
  d1 : o.la ≠ o.pa
  d2 : o.la ≠ o.ka
  d3 : o.pa ≠ o.ka
  dk : ∀ k ∈ o.ks, k ≠ o.la ∧ k ≠ o.pa ∧ k ≠ o.ka
def adr (a : Addr) (o : Ow) : List Addr := a :: o.la :: o.pa :: o.ka :: (o.ls ++ o.ps ++ o.ks)
section
variable {C : Ad} {H H' H0 : Hp} {a : Addr} {s : Shf} {o : Ow}
theorem adr_a : a ∈ adr a o := by simp [adr]
theorem adr_la : o.la ∈ adr a o := by simp [adr]
theorem adr_pa : o.pa ∈ adr a o := by simp [adr]
theorem adr_ka : o.ka ∈ adr a o := by simp [adr]
theorem adr_ls {x : Addr} (h : x ∈ o.ls) : x ∈ adr a o := by simp [adr, h]
theorem adr_ps {x : Addr} (h : x ∈ o.ps) : x ∈ adr a o := by simp [adr, h]
theorem adr_ks {x : Addr} (h : x ∈ o.ks) : x ∈ adr a o := by simp [adr, h]
theorem ShAt.cong (S : ShAt C H a s o) (h : ∀ x ∈ adr a o, ∀ u, H x = some u → H' x = some u) : ShAt C H' a s o where
  me := h _ adr_a _ S.me
  la := h _ adr_la _ S.la
  pa := h _ adr_pa _ S.pa
  ka := h _ adr_ka _ S.ka
  lv := S.lv.keep fun x hx v ⟨dx, e⟩ => ⟨dx, h _ (adr_ls hx) _ e⟩
  ps := S.ps.keep fun x hx v ⟨dx, e⟩ => ⟨dx, h _ (adr_ps hx) _ e⟩
  lk := S.lk.keep fun x hx v e => h _ (adr_ks hx) _ e
  nl := S.nl
  np := S.np
  nk := S.nk
  d1 := S.d1
  d2 := S.d2
  d3 := S.d3
  dk := S.dk
theorem ShAt.same (S : ShAt C H a s o) (e : Same H H') : ShAt C H' a s o := S.cong fun x _ u h => e x u h
/-- whatever stands at a shaft's places is tracked -/
theorem ShAt.there (S : ShAt C H a s o) {x : Addr} (hx : x ∈ adr a o) : ∃ u, H x = some u := by
  unfold adr at hx
  rcases List.mem_cons.mp hx with rfl | hx
  · exact ⟨_, S.me⟩
  rcases List.mem_cons.mp hx with rfl | hx
  · exact ⟨_, S.la⟩
  rcases List.mem_cons.mp hx with rfl | hx
  · exact ⟨_, S.pa⟩
  rcases List.mem_cons.mp hx with rfl | hx
  · exact ⟨_, S.ka⟩
  rcases List.mem_append.mp hx with hx | hx
  · rcases List.mem_append.mp hx with hx | hx
    · obtain ⟨n, h1, h2⟩ := List.mem_iff_getElem.mp hx
      obtain ⟨_, _, dx, e⟩ := S.lv.get (show o.ls[n]? = some x by rw [List.getElem?_eq_getElem h1, h2])
      exact ⟨_, e⟩
    · obtain ⟨n, h1, h2⟩ := List.mem_iff_getElem.mp hx
      obtain ⟨_, _, dx, e⟩ := S.ps.get (show o.ps[n]? = some x by rw [List.getElem?_eq_getElem h1, h2])
      exact ⟨_, e⟩
  · obtain ⟨n, h1, h2⟩ := List.mem_iff_getElem.mp hx
    obtain ⟨_, _, e⟩ := S.lk.get (show o.ks[n]? = some x by rw [List.getElem?_eq_getElem h1, h2])
    exact ⟨_, e⟩
end
/-- a good shaft stands at a -/
structure Sh (C : Ad) (H : Hp) (a : Addr) (s : Shf) : Prop where
  good : Good s
  at_ : ∃ o, ShAt C H a s o
theorem Sh.same {C : Ad} {H H' : Hp} {a : Addr} {s : Shf} (S : Sh C H a s) (e : Same H H') : Sh C H' a s := ⟨S.good, let ⟨o, h⟩ := S.at_; ⟨o, h.same e⟩⟩
/-- a shaft that is new beside H0: all that H0 holds stands as it was -/
structure Tr (C : Ad) (H0 H : Hp) (a : Addr) (s : Shf) (o : Ow) : Prop where
  sh : ShAt C H a s o
  sm : Same H0 H
  fr : ∀ x ∈ adr a o, H0 x = none
section
variable {C : Ad} {H H' H0 : Hp} {a : Addr} {s : Shf} {o : Ow}
theorem Tr.same (T : Tr C H0 H a s o) (e : Same H H') : Tr C H0 H' a s o := ⟨T.sh.same e, T.sm.trans e, T.fr⟩
theorem Tr.upd_sm (T : Tr C H0 H a s o) {x : Addr} (hx : x ∈ adr a o) {u : HO} : Same H0 (upd H x u) := fun b w e => by
  rw [upd_ne (ne_of_none e (T.fr x hx))]
  exact T.sm b w e
/-! what stands apart by its kind -/
theorem lv_ne_sh {v : Lev} {dx dy : Addr} {D E : Addr} : HO.ins D dx (lvF v) ≠ HO.ins E dy (shF s o) := by
  intro z
  injection z with _ _ z
  have := congrArg List.length z
  exact absurd (show (6 : Nat) = 12 from this) (by decide)
theorem ps_ne_sh {v : Per} {dx dy : Addr} {D E : Addr} : HO.ins D dx (psF v) ≠ HO.ins E dy (shF s o) := by
  intro z
  injection z with _ _ z
  have := congrArg List.length z
  exact absurd (show (2 : Nat) = 12 from this) (by decide)
theorem lv_ne_ps {v : Lev} {x : Per} {dx dy : Addr} {D E : Addr} : HO.ins D dx (lvF v) ≠ HO.ins E dy (psF x) := by
  intro z
  injection z with _ _ z
  have := congrArg List.length z
  exact absurd (show (6 : Nat) = 2 from this) (by decide)
/-- a number of the shaft itself changes -/
theorem Tr.fld (T : Tr C H0 H a s o) {t : Shf} (e1 : t.levels = s.levels) (e2 : t.persons = s.persons) (e3 : t.locks = s.locks) : Tr C H0 (upd H a (.ins C.S o.dx (shF t o))) a t o := by
  have S := T.sh
  have nlst : ∀ {x : Addr} {xs : List V}, H x = some (.lst xs) → x ≠ a := fun h => ne_of h S.me (by intro z; cases z)
  refine ⟨⟨upd_same, ?_, ?_, ?_, ?_, ?_, ?_, S.nl, S.np, S.nk, S.d1, S.d2, S.d3, S.dk⟩, T.upd_sm adr_a, T.fr⟩
  · rw [upd_ne (nlst S.la)]; exact S.la
  · rw [upd_ne (nlst S.pa)]; exact S.pa
  · rw [upd_ne (nlst S.ka)]; exact S.ka
  · rw [e1]
    refine S.lv.keep fun x _ v ⟨dx, e⟩ => ⟨dx, ?_⟩
    rw [upd_ne (ne_of e S.me lv_ne_sh)]; exact e
  · rw [e2]
    refine S.ps.keep fun x _ v ⟨dx, e⟩ => ⟨dx, ?_⟩
    rw [upd_ne (ne_of e S.me ps_ne_sh)]; exact e
  · rw [e3]
    refine S.lk.keep fun x _ v e => ?_
    show upd H a _ x = _
    rw [upd_ne (nlst (show H x = _ from e))]; exact e
/-- a level changes (place i of all, above ground is 0) -/
theorem Tr.lev (T : Tr C H0 H a s o) {i : Nat} {x dx : Addr} {v u : Lev} {ws : List Lev} (hx : o.ls[i]? = some x) (hH : H x = some (.ins C.L dx (lvF v))) (hw : (v0 :: s.levels).set i u = v0 :: ws) :
    Tr C H0 (upd H x (.ins C.L dx (lvF u))) a { s with levels := ws } o := by
  have S := T.sh
  have nlst : ∀ {y : Addr} {xs : List V}, H y = some (.lst xs) → y ≠ x := fun h => ne_of h hH (by intro z; cases z)
  have mx : x ∈ o.ls := List.mem_of_getElem? hx
  refine ⟨⟨?_, ?_, ?_, ?_, ?_, ?_, ?_, S.nl, S.np, S.nk, S.d1, S.d2, S.d3, S.dk⟩, T.upd_sm (adr_ls mx), T.fr⟩
  · rw [upd_ne (ne_of S.me hH fun z => lv_ne_sh z.symm)]; exact S.me
  · rw [upd_ne (nlst S.la)]; exact S.la
  · rw [upd_ne (nlst S.pa)]; exact S.pa
  · rw [upd_ne (nlst S.ka)]; exact S.ka
  · show Al _ o.ls (v0 :: ws)
    rw [← hw]
    refine S.lv.set S.nl hx ⟨dx, upd_same⟩ fun y hy ne w ⟨dy, e⟩ => ⟨dy, ?_⟩
    rw [upd_ne ne]; exact e
  · refine S.ps.keep fun y _ w ⟨dy, e⟩ => ⟨dy, ?_⟩
    rw [upd_ne (ne_of e hH fun z => lv_ne_ps z.symm)]; exact e
  · refine S.lk.keep fun y _ w e => ?_
    show upd H x _ y = _
    rw [upd_ne (nlst (show H y = _ from e))]; exact e
/-- a person changes -/
theorem Tr.per (T : Tr C H0 H a s o) {i : Nat} {x dx : Addr} {v u : Per} (hx : o.ps[i]? = some x) (hH : H x = some (.ins C.P dx (psF v))) :
    Tr C H0 (upd H x (.ins C.P dx (psF u))) a { s with persons := s.persons.set i u } o := by
  have S := T.sh
  have nlst : ∀ {y : Addr} {xs : List V}, H y = some (.lst xs) → y ≠ x := fun h => ne_of h hH (by intro z; cases z)
  have mx : x ∈ o.ps := List.mem_of_getElem? hx
  refine ⟨⟨?_, ?_, ?_, ?_, ?_, ?_, ?_, S.nl, S.np, S.nk, S.d1, S.d2, S.d3, S.dk⟩, T.upd_sm (adr_ps mx), T.fr⟩
  · rw [upd_ne (ne_of S.me hH fun z => ps_ne_sh z.symm)]; exact S.me
  · rw [upd_ne (nlst S.la)]; exact S.la
  · rw [upd_ne (nlst S.pa)]; exact S.pa
  · rw [upd_ne (nlst S.ka)]; exact S.ka
  · refine S.lv.keep fun y _ w ⟨dy, e⟩ => ⟨dy, ?_⟩
    rw [upd_ne (ne_of e hH lv_ne_ps)]; exact e
  · refine S.ps.set S.np hx ⟨dx, upd_same⟩ fun y hy ne w ⟨dy, e⟩ => ⟨dy, ?_⟩
    rw [upd_ne ne]; exact e
  · refine S.lk.keep fun y _ w e => ?_
    show upd H x _ y = _
    rw [upd_ne (nlst (show H y = _ from e))]; exact e
/-- a lock's doors change -/
theorem Tr.lck (T : Tr C H0 H a s o) {i : Nat} {x : Addr} {u : Bool × Bool} (hx : o.ks[i]? = some x) :
    Tr C H0 (upd H x (.lst [.bl u.1, .bl u.2])) a { s with locks := s.locks.set i u } o := by
  have S := T.sh
  have mx : x ∈ o.ks := List.mem_of_getElem? hx
  obtain ⟨b, _, hb⟩ := S.lk.get hx
  have hb : H x = some (.lst [.bl b.1, .bl b.2]) := hb
  have nins : ∀ {y D dy : Addr} {fs : List (Str × V)}, H y = some (.ins D dy fs) → y ≠ x := fun h => ne_of h hb (by intro z; cases z)
  obtain ⟨k1, k2, k3⟩ := S.dk x mx
  refine ⟨⟨?_, ?_, ?_, ?_, ?_, ?_, ?_, S.nl, S.np, S.nk, S.d1, S.d2, S.d3, S.dk⟩, T.upd_sm (adr_ks mx), T.fr⟩
  · rw [upd_ne (nins S.me)]; exact S.me
  · rw [upd_ne (Ne.symm k1)]; exact S.la
  · rw [upd_ne (Ne.symm k2)]; exact S.pa
  · rw [upd_ne (Ne.symm k3)]; exact S.ka
  · refine S.lv.keep fun y _ w ⟨dy, e⟩ => ⟨dy, ?_⟩
    rw [upd_ne (nins e)]; exact e
  · refine S.ps.keep fun y _ w ⟨dy, e⟩ => ⟨dy, ?_⟩
    rw [upd_ne (nins e)]; exact e
  · refine S.lk.set S.nk hx (show upd H x _ x = _ from upd_same) fun y hy ne w e => ?_
    show upd H x _ y = _
    rw [upd_ne ne]; exact e
theorem adr_snoc_l {x y : Addr} (h : y ∈ adr a { o with ls := o.ls ++ [x] }) : y ∈ adr a o ∨ y = x := by
  simp [adr] at h ⊢
  rcases h with h | h | h | h | h | h | h | h
  all_goals simp [h]
theorem adr_snoc_p {x y : Addr} (h : y ∈ adr a { o with ps := o.ps ++ [x] }) : y ∈ adr a o ∨ y = x := by
  simp [adr] at h ⊢
  rcases h with h | h | h | h | h | h | h | h
  all_goals simp [h]
theorem adr_snoc_k {x y : Addr} (h : y ∈ adr a { o with ks := o.ks ++ [x] }) : y ∈ adr a o ∨ y = x := by
  simp [adr] at h ⊢
  rcases h with h | h | h | h | h | h | h | h
  all_goals simp [h]
theorem snoc_nd {l : List Addr} {x : Addr} (h : l.Nodup) (hx : x ∉ l) : (l ++ [x]).Nodup := by
  rw [List.nodup_append]
  refine ⟨h, by simp, fun q hq z hz e => ?_⟩
  rw [List.mem_singleton.mp hz] at e
  subst e
  exact hx hq
/-- a new level at the end -/
theorem Tr.addL (T : Tr C H0 H a s o) {x : Addr} {v : Lev} (hx : LvAt C H x v) (hn : x ∉ o.ls) (h0 : H0 x = none) :
    Tr C H0 (upd H o.la (.lst (o.ls.map V.ref ++ [V.ref x]))) a { s with levels := s.levels ++ [v] } { o with ls := o.ls ++ [x] } := by
  have S := T.sh
  have nins : ∀ {y D dy : Addr} {fs : List (Str × V)}, H y = some (.ins D dy fs) → y ≠ o.la := fun h => ne_of h S.la (by intro z; cases z)
  refine ⟨⟨?_, ?_, ?_, ?_, ?_, ?_, ?_, snoc_nd S.nl hn, S.np, S.nk, S.d1, S.d2, S.d3, S.dk⟩, T.upd_sm adr_la, fun y hy => ?_⟩
  · rw [upd_ne (nins S.me)]; exact S.me
  · show upd H o.la _ o.la = some (.lst ((o.ls ++ [x]).map V.ref))
    rw [upd_same, List.map_append]; rfl
  · show upd H o.la _ o.pa = _
    rw [upd_ne (Ne.symm S.d1)]; exact S.pa
  · show upd H o.la _ o.ka = _
    rw [upd_ne (Ne.symm S.d2)]; exact S.ka
  · show Al _ (o.ls ++ [x]) ((v0 :: s.levels) ++ [v])
    refine Al.snoc (S.lv.keep fun y _ w ⟨dy, e⟩ => ⟨dy, by rw [upd_ne (nins e)]; exact e⟩) ?_
    obtain ⟨dx, e⟩ := hx
    exact ⟨dx, by rw [upd_ne (nins e)]; exact e⟩
  · refine S.ps.keep fun y _ w ⟨dy, e⟩ => ⟨dy, ?_⟩
    rw [upd_ne (nins e)]; exact e
  · refine S.lk.keep fun y hy w e => ?_
    show upd H o.la _ y = _
    rw [upd_ne (S.dk y hy).1]; exact e
  · rcases adr_snoc_l hy with hy | rfl
    · exact T.fr y hy
    · exact h0
theorem Tr.addP (T : Tr C H0 H a s o) {x : Addr} {v : Per} (hx : PsAt C H x v) (hn : x ∉ o.ps) (h0 : H0 x = none) :
    Tr C H0 (upd H o.pa (.lst (o.ps.map V.ref ++ [V.ref x]))) a { s with persons := s.persons ++ [v] } { o with ps := o.ps ++ [x] } := by
  have S := T.sh
  have nins : ∀ {y D dy : Addr} {fs : List (Str × V)}, H y = some (.ins D dy fs) → y ≠ o.pa := fun h => ne_of h S.pa (by intro z; cases z)
  refine ⟨⟨?_, ?_, ?_, ?_, ?_, ?_, ?_, S.nl, snoc_nd S.np hn, S.nk, S.d1, S.d2, S.d3, S.dk⟩, T.upd_sm adr_pa, fun y hy => ?_⟩
  · rw [upd_ne (nins S.me)]; exact S.me
  · show upd H o.pa _ o.la = _
    rw [upd_ne S.d1]; exact S.la
  · show upd H o.pa _ o.pa = some (.lst ((o.ps ++ [x]).map V.ref))
    rw [upd_same, List.map_append]; rfl
  · show upd H o.pa _ o.ka = _
    rw [upd_ne (Ne.symm S.d3)]; exact S.ka
  · refine S.lv.keep fun y _ w ⟨dy, e⟩ => ⟨dy, ?_⟩
    rw [upd_ne (nins e)]; exact e
  · show Al _ (o.ps ++ [x]) (s.persons ++ [v])
    refine Al.snoc (S.ps.keep fun y _ w ⟨dy, e⟩ => ⟨dy, by rw [upd_ne (nins e)]; exact e⟩) ?_
    obtain ⟨dx, e⟩ := hx
    exact ⟨dx, by rw [upd_ne (nins e)]; exact e⟩
  · refine S.lk.keep fun y hy w e => ?_
    show upd H o.pa _ y = _
    rw [upd_ne (S.dk y hy).2.1]; exact e
  · rcases adr_snoc_p hy with hy | rfl
    · exact T.fr y hy
    · exact h0
theorem Tr.addK (T : Tr C H0 H a s o) {x : Addr} {v : Bool × Bool} (hx : LkAt H x v) (hn : x ∉ o.ks) (h0 : H0 x = none) (k1 : x ≠ o.la) (k2 : x ≠ o.pa) (k3 : x ≠ o.ka) :
    Tr C H0 (upd H o.ka (.lst (o.ks.map V.ref ++ [V.ref x]))) a { s with locks := s.locks ++ [v] } { o with ks := o.ks ++ [x] } := by
  have S := T.sh
  have nins : ∀ {y D dy : Addr} {fs : List (Str × V)}, H y = some (.ins D dy fs) → y ≠ o.ka := fun h => ne_of h S.ka (by intro z; cases z)
  refine ⟨⟨?_, ?_, ?_, ?_, ?_, ?_, ?_, S.nl, S.np, snoc_nd S.nk hn, S.d1, S.d2, S.d3, fun y hy => ?_⟩, T.upd_sm adr_ka, fun y hy => ?_⟩
  · rw [upd_ne (nins S.me)]; exact S.me
  · show upd H o.ka _ o.la = _
    rw [upd_ne S.d2]; exact S.la
  · show upd H o.ka _ o.pa = _
    rw [upd_ne S.d3]; exact S.pa
  · show upd H o.ka _ o.ka = some (.lst ((o.ks ++ [x]).map V.ref))
    rw [upd_same, List.map_append]; rfl
  · refine S.lv.keep fun y _ w ⟨dy, e⟩ => ⟨dy, ?_⟩
    rw [upd_ne (nins e)]; exact e
  · refine S.ps.keep fun y _ w ⟨dy, e⟩ => ⟨dy, ?_⟩
    rw [upd_ne (nins e)]; exact e
  · show Al _ (o.ks ++ [x]) (s.locks ++ [v])
    refine Al.snoc (S.lk.keep fun y hy w e => (upd_ne (S.dk y hy).2.2).trans e) ?_
    show upd H o.ka _ x = _
    rw [upd_ne k3]; exact hx
  · rcases List.mem_append.mp hy with hy | hy
    · exact S.dk y hy
    · rw [List.mem_singleton.mp hy]
      exact ⟨k1, k2, k3⟩
  · rcases adr_snoc_k hy with hy | rfl
    · exact T.fr y hy
    · exact h0
end
end Ms
set_option Elab.async false
set_option linter.all false
set_option maxRecDepth 100000
set_option maxHeartbeats 1000000
namespace Ms
open PySem PySem.Spec PyProof.Rows L2
/-! ### the text by places -/
def top (i : Nat) : Stmt := PySem.Challenge.pw_mineshaft_s01_answers.main.body.getD i (.Pass ⟨0, 0, 0, 0⟩)
abbrev tLevel : Stmt := inClass (top 15) 0
abbrev tPerson : Stmt := inClass (top 16) 0
abbrev tShaft : Stmt := inClass (top 17) 0
abbrev t_copy_of_level : Stmt := top 18
abbrev t_copy_of_shaft : Stmt := top 19
abbrev t_is_level : Stmt := top 20
abbrev t_is_below : Stmt := top 21
abbrev t_persons_at : Stmt := top 22
abbrev t_count_at : Stmt := top 23
abbrev t_on_the_rope : Stmt := top 24
abbrev t_is_foul : Stmt := top 25
abbrev t_gain_in_a_minute : Stmt := top 26
abbrev t_gas_after : Stmt := top 27
abbrev t_pass_minutes : Stmt := top 28
abbrev t_levels_of_those_below : Stmt := top 34
abbrev t_taken_along : Stmt := top 35
abbrev t_groups_to_fetch : Stmt := top 36
abbrev t_wear_to_fetch : Stmt := top 37
abbrev t_needed : Stmt := top 38
abbrev t_is_safe : Stmt := top 39
abbrev t_step_above_ground : Stmt := top 40
abbrev t_step_below_ground : Stmt := top 41
abbrev t_next_step : Stmt := top 42
abbrev t_metres_to : Stmt := top 44
abbrev t_wear_to : Stmt := top 45
abbrev t_move_cage : Stmt := top 46
abbrev t_would_be_safe_at : Stmt := top 47
abbrev t_winding_refusal : Stmt := top 48
abbrev t_sh_level : Stmt := top 63
abbrev t_sh_hire : Stmt := top 64
abbrev t_sh_board : Stmt := top 65
abbrev t_sh_leave : Stmt := top 66
abbrev t_sh_wind : Stmt := top 67
abbrev t_sh_wait : Stmt := top 68
abbrev t_sh_fan : Stmt := top 69
abbrev t_sh_mine : Stmt := top 70
abbrev t_sh_load : Stmt := top 71
abbrev t_sh_dump : Stmt := top 72
abbrev t_sh_rope : Stmt := top 73
abbrev t_sh_lock : Stmt := top 74
abbrev t_door_refusal : Stmt := top 75
abbrev t_sh_open : Stmt := top 76
abbrev t_sh_shut : Stmt := top 77
abbrev tHistory : Stmt := inClass (top 83) 0
abbrev t_sh_start : Stmt := top 84
abbrev t_carry_out : Stmt := top 85
abbrev t_make_change : Stmt := top 86
abbrev t_ask : Stmt := top 87
abbrev t_go_over : Stmt := top 88
abbrev t_sh_back : Stmt := top 89
abbrev t_sh_again : Stmt := top 90
abbrev t_sh_state : Stmt := top 91
abbrev t_as_bits : Stmt := top 94
abbrev t_counted : Stmt := top 95
abbrev t_sh_where : Stmt := top 96
abbrev t_sh_below : Stmt := top 97
abbrev t_sh_who : Stmt := top 98
abbrev t_sh_cage : Stmt := top 99
abbrev t_sh_need : Stmt := top 100
abbrev t_sh_next : Stmt := top 101
abbrev t_warning_of : Stmt := top 102
abbrev t_sh_gas : Stmt := top 103
abbrev t_sh_foul : Stmt := top 104
abbrev t_sh_long : Stmt := top 105
abbrev t_sh_may : Stmt := top 106
abbrev t_sh_ore : Stmt := top 107
abbrev t_locks_open_at : Stmt := top 108
abbrev t_sh_doors : Stmt := top 109
abbrev t_answer_to : Stmt := top 118
abbrev t_answers : Stmt := top 119
/-- a def as the top leaves it -/
structure Df (K : PySem.W.Frag) (mg : Str → Option Value) (nm : Str) (st : Stmt) (ps : List Str) (f : Addr) (fd : FuncData) : Prop where
  fn : Fun K nm nm st f fd
  mg : mg nm = some (.ref f)
  bd : Binds K fd ps []
theorem Df.kn {P : Program} {w : World} {K : PySem.W.Frag} {mg : Str → Option Value} {base : Heap} {k : Nat} {nm : Str} {st : Stmt} {ps : List Str} {sp : Sp} {f : Addr} {fd : FuncData} (D : Df K mg nm st ps f fd) (h : FnOk P w K mg base CX0 k f fd ps sp) :
    Kn P w K mg base k nm ps sp f fd := ⟨h, D.mg, D.fn.kp, D.bd⟩
/-- a class as the top leaves it -/
structure Dc (K : PySem.W.Frag) (mg : Str → Option Value) (nm qual : Str) (st : Stmt) (ps : List Str) (C f : Addr) (fd : FuncData) : Prop where
  fn : Fun K "__init__" qual st f fd
  mg : mg nm = some (.ref C)
  mc : Mk K C f
  bd : Binds K fd ps []
theorem Dc.kc {P : Program} {w : World} {K : PySem.W.Frag} {mg : Str → Option Value} {base : Heap} {k : Nat} {nm qual : Str} {st : Stmt} {ps : List Str} {sp : Sp} {C f : Addr} {fd : FuncData} (D : Dc K mg nm qual st ps C f fd) (h : FnOk P w K mg base CX0 k f fd ps sp) :
    Kc P w K mg base k nm ps sp C f fd := ⟨h, D.mg, D.mc, D.bd⟩
/-- what the top has written, but the defs -/
structure Txt (K : PySem.W.Frag) (mg : Str → Option Value) (C : Ad) : Prop where
  cL : Cls K C.L
  cP : Cls K C.P
  cS : Cls K C.S
  cH : Cls K C.Hi
  nDepth : NoAttr K C.L "depth"
  nRate : NoAttr K C.L "rate"
  nClears : NoAttr K C.L "clears"
  nFan : NoAttr K C.L "fan"
  nGas : NoAttr K C.L "gas"
  nOre : NoAttr K C.L "ore"
  nPlace : NoAttr K C.P "place"
  nSince : NoAttr K C.P "since"
  nRoom : NoAttr K C.S "room"
  nRope : NoAttr K C.S "rope"
  nSpeed : NoAttr K C.S "speed"
  nWorn : NoAttr K C.S "worn"
  nMinute : NoAttr K C.S "minute"
  nLevels : NoAttr K C.S "levels"
  nPersons : NoAttr K C.S "persons"
  nCage : NoAttr K C.S "cage"
  nTub : NoAttr K C.S "tub"
  nDumped : NoAttr K C.S "dumped"
  nMined : NoAttr K C.S "mined"
  nLocks : NoAttr K C.S "locks"
  nShaft : NoAttr K C.Hi "shaft"
  nPast : NoAttr K C.Hi "past"
  nFuture : NoAttr K C.Hi "future"
  bLen : mg "len" = none
  bSorted : mg "sorted" = none
  bRange : mg "range" = none
  bSum : mg "sum" = none
  bAny : mg "any" = none
  bMax : mg "max" = none
  bAbs : mg "abs" = none
  bList : mg "list" = none
  bEnumerate : mg "enumerate" = none
  kMISSING : Cst mg "MISSING" (-2)
  kNOTHING : Cst mg "NOTHING" (-6)
  kTOO_LITTLE : Cst mg "TOO_LITTLE" (-12)
  kFOUL : Cst mg "FOUL" (-13)
  kHINDERED : Cst mg "HINDERED" (-16)
  kALREADY : Cst mg "ALREADY" (-17)
  kWRONG : Cst mg "WRONG" (-22)
  kFULL : Cst mg "FULL" (-28)
  kUNSAFE : Cst mg "UNSAFE" (-62)
  kTOO_LATE : Cst mg "TOO_LATE" (-75)
  kIN_CAGE : Cst mg "IN_CAGE" 9
  kCAGE_WEIGHT : Cst mg "CAGE_WEIGHT" 1000
  kPERSON_WEIGHT : Cst mg "PERSON_WEIGHT" 80
  kFOUL_ABOVE : Cst mg "FOUL_ABOVE" 10000
  kBOARDS : Cst mg "BOARDS" 0
  kLEAVES : Cst mg "LEAVES" 1
  kIS_WOUND : Cst mg "IS_WOUND" 2
  kIS_DUMPED : Cst mg "IS_DUMPED" 3
  kMOST_LEVELS : Cst mg "MOST_LEVELS" 5
  kDEEPEST : Cst mg "DEEPEST" 2000
  kMOST_GAS : Cst mg "MOST_GAS" 2000
  kMOST_CLEARED : Cst mg "MOST_CLEARED" 5000
  kMOST_PERSONS : Cst mg "MOST_PERSONS" 24
  kLONGEST_WAIT : Cst mg "LONGEST_WAIT" 1440
  kLAST_MINUTE_TO_WAIT : Cst mg "LAST_MINUTE_TO_WAIT" 999000
  kLAST_MINUTE_TO_WIND : Cst mg "LAST_MINUTE_TO_WIND" 1000000
  kMOST_MINED_AT_ONCE : Cst mg "MOST_MINED_AT_ONCE" 10000
  kMOST_EVER_MINED : Cst mg "MOST_EVER_MINED" 2000000000
  kTUB_HOLDS : Cst mg "TUB_HOLDS" 3000
  kSTRONGEST_ROPE : Cst mg "STRONGEST_ROPE" 2000000000
  kMOST_LOCKS : Cst mg "MOST_LOCKS" 4
  kMOST_ROOM : Cst mg "MOST_ROOM" 8
  kMOST_SPEED : Cst mg "MOST_SPEED" 1000
  kMOST_TAKEN_BACK : Cst mg "MOST_TAKEN_BACK" 30
  kFORESEEN_MINUTES : Cst mg "FORESEEN_MINUTES" 1440
  kSTART : Cst mg "START" 0
  kFIRST_CHANGE : Cst mg "FIRST_CHANGE" 1
  kFIRST_QUESTION : Cst mg "FIRST_QUESTION" 15
  kBACK : Cst mg "BACK" 27
  kAGAIN : Cst mg "AGAIN" 28
end Ms
set_option Elab.async false
set_option linter.all false
set_option maxRecDepth 100000
set_option maxHeartbeats 2000000
namespace Ms
open PySem PySem.Spec PyProof.Rows L2
section
variable {P : Program} {w : World} {K : PySem.W.Frag} {mg : Str → Option Value} {base : Heap} {C : Ad} {f fi : Addr} {fd fdi : FuncData}
/-! ### Level, Person -/
def spLevel (C : Ad) : Sp := fun vs H Q _ => ∃ (p dx : Addr) (d r c : Nat), vs = [.ref p, vN d, vN r, vN c] ∧ H p = some (.ins C.L dx []) ∧ ∀ H' : Hp, LvAt C H' p ⟨d, r, c, false, 0, 0⟩ → (∀ b o, H b = some o → b ≠ p → H' b = some o) → Q .non H'
theorem scLevel : FnScope ["self", "depth", "rate", "clears"] ["self", "depth", "rate", "clears"] (defScope tLevel) := ⟨rfl, rfl, rfl, by decide +kernel, rfl, by decide +kernel, by decide +kernel⟩
theorem okLevel (T : Txt K mg C) (D : Dc K mg "Level" "Level.__init__" tLevel ["self", "depth", "rate", "clears"] C.L f fd) : Kc P w K mg base 1 "Level" ["self", "depth", "rate", "clears"] (spLevel C) C.L f fd := by
  refine D.kc (D.fn.ok scLevel (fun vs H Q E h => ?_) (fun cdv A outer s H vs Q E hr h => ?_))
  · obtain ⟨p, dx, d, r, c, rfl, _⟩ := h
    rfl
  · obtain ⟨p, dx, d, r, c, rfl, hp, k⟩ := h
    refine ⟨_, pss_cons (ps_fld (pv 0) (pv 1) rfl) (pss_cons (ps_fld (pv 0) (pv 2) rfl) (pss_cons (ps_fld (pv 0) (pv 3) rfl) (pss_cons (ps_fld (pv 0) pe_int rfl) (pss_cons (ps_fld (pv 0) pe_int rfl) (pss_one (ps_fld (pv 0) pe_int rfl)))))), ?_⟩
    refine ⟨_, rfl, _, rfl, p, C.L, dx, _, rfl, hp, T.cL, T.nDepth, (by show 0 < 1000; decide), ?_⟩
    refine ⟨_, rfl, _, rfl, p, C.L, dx, _, rfl, upd_same, T.cL, T.nRate, (by show 1 < 1000; decide), ?_⟩
    refine ⟨_, rfl, _, rfl, p, C.L, dx, _, rfl, upd_same, T.cL, T.nClears, (by show 2 < 1000; decide), ?_⟩
    refine ⟨_, rfl, p, C.L, dx, _, rfl, upd_same, T.cL, T.nFan, (by show 3 < 1000; decide), ?_⟩
    refine ⟨_, rfl, p, C.L, dx, _, rfl, upd_same, T.cL, T.nGas, (by show 4 < 1000; decide), ?_⟩
    refine ⟨_, rfl, p, C.L, dx, _, rfl, upd_same, T.cL, T.nOre, (by show 5 < 1000; decide), ?_⟩
    exact k _ ⟨dx, upd_same.trans rfl⟩ fun b o e hb => by
      simp only [upd_upd]
      rw [upd_ne hb]
      exact e
def spPerson (C : Ad) : Sp := fun vs H Q _ => ∃ (p dx : Addr) (x t : Nat), vs = [.ref p, vN x, vN t] ∧ H p = some (.ins C.P dx []) ∧ ∀ H' : Hp, H' p = some (.ins C.P dx [("place", vN x), ("since", vN t)]) → (∀ b o, H b = some o → b ≠ p → H' b = some o) → Q .non H'
theorem scPerson : FnScope ["self", "place", "since"] ["self", "place", "since"] (defScope tPerson) := ⟨rfl, rfl, rfl, by decide +kernel, rfl, by decide +kernel, by decide +kernel⟩
theorem okPerson (T : Txt K mg C) (D : Dc K mg "Person" "Person.__init__" tPerson ["self", "place", "since"] C.P f fd) : Kc P w K mg base 1 "Person" ["self", "place", "since"] (spPerson C) C.P f fd := by
  refine D.kc (D.fn.ok scPerson (fun vs H Q E h => ?_) (fun cdv A outer s H vs Q E hr h => ?_))
  · obtain ⟨p, dx, x, t, rfl, _⟩ := h
    rfl
  · obtain ⟨p, dx, x, t, rfl, hp, k⟩ := h
    refine ⟨_, pss_cons (ps_fld (pv 0) (pv 1) rfl) (pss_one (ps_fld (pv 0) (pv 2) rfl)), ?_⟩
    refine ⟨_, rfl, _, rfl, p, C.P, dx, _, rfl, hp, T.cP, T.nPlace, (by show 0 < 1000; decide), ?_⟩
    refine ⟨_, rfl, _, rfl, p, C.P, dx, _, rfl, upd_same, T.cP, T.nSince, (by show 1 < 1000; decide), ?_⟩
    exact k _ (upd_same.trans rfl) fun b o e hb => by
      simp only [upd_upd]
      rw [upd_ne hb]
      exact e
/-! ### small readers -/
def spIsBelow (C : Ad) : Sp := fun vs H Q _ => ∃ (a : Addr) (x : Per), vs = [.ref a] ∧ PsAt C H a x ∧ Km413.levelIn x ≤ 5 ∧ Q (.bl (Km413.levelIn x != 0)) H
theorem sc_is_below : FnScope ["person"] ["person"] (defScope t_is_below) := ⟨rfl, rfl, rfl, by decide +kernel, rfl, by decide +kernel, by decide +kernel⟩
theorem ok_is_below (T : Txt K mg C) (D : Df K mg "is_below" t_is_below ["person"] f fd) : Kn P w K mg base 1 "is_below" ["person"] (spIsBelow C) f fd := by
  refine D.kn (D.fn.ok sc_is_below (fun vs H Q E h => ?_) (fun cdv A outer s H vs Q E hr h => ?_))
  · obtain ⟨a, x, rfl, _⟩ := h
    rfl
  · obtain ⟨a, x, rfl, ⟨dx, hx⟩, h5, k⟩ := h
    refine ⟨_, pss_one (ps_ret (pe_and (pe_cmpR op_ne (pe_fld (pv 0) rfl) (pe_cst T.kIN_CAGE rfl) (nomark _)) (pe_one (pe_cmpR op_gt (pe_fld (pv 0) rfl) pe_int (nomark _))))), ?_⟩
    refine ⟨_, rfl, a, C.P, dx, _, _, rfl, hx, T.cP, T.nPlace, rfl, rfl, _, rfl, ?_⟩
    have hb := pl_below x h5
    by_cases c : pl x = 9
    · have e1 : (!decide (V.int (pl x : Int) = V.int 9)) = false := by rw [c]; rfl
      have e2 : (Km413.levelIn x != 0) = false := by
        have : ¬ (Km413.levelIn x ≠ 0) := fun q => (hb.mpr q).1 c
        simpa using this
      rw [e1]
      refine iteF ?_
      rw [e2] at k
      exact k
    · have e1 : (!decide (V.int (pl x : Int) = V.int 9)) = true := by
        rw [decide_eq_false (fun q => c (by injection q with q; omega))]; rfl
      rw [e1]
      refine iteT ?_
      refine ⟨_, rfl, a, C.P, dx, _, _, rfl, hx, T.cP, T.nPlace, rfl, _, _, rfl, rfl, ?_⟩
      have e2 : (Km413.levelIn x != 0) = decide ((0 : Int) < (pl x : Int)) := by
        by_cases q : 0 < pl x
        · rw [decide_eq_true (by omega)]
          simpa using hb.mp ⟨c, q⟩
        · rw [decide_eq_false (by omega)]
          have : ¬ (Km413.levelIn x ≠ 0) := fun z => q (hb.mpr z).2
          simpa using this
      rw [e2] at k
      exact k
def spIsFoul (C : Ad) : Sp := fun vs H Q _ => ∃ (a : Addr) (v : Lev), vs = [.ref a] ∧ LvAt C H a v ∧ Q (.bl (decide (10000 < v.gas))) H
theorem sc_is_foul : FnScope ["level"] ["level"] (defScope t_is_foul) := ⟨rfl, rfl, rfl, by decide +kernel, rfl, by decide +kernel, by decide +kernel⟩
theorem ok_is_foul (T : Txt K mg C) (D : Df K mg "is_foul" t_is_foul ["level"] f fd) : Kn P w K mg base 1 "is_foul" ["level"] (spIsFoul C) f fd := by
  refine D.kn (D.fn.ok sc_is_foul (fun vs H Q E h => ?_) (fun cdv A outer s H vs Q E hr h => ?_))
  · obtain ⟨a, x, rfl, _⟩ := h
    rfl
  · obtain ⟨a, v, rfl, ⟨dx, hx⟩, k⟩ := h
    refine ⟨_, pss_one (ps_ret (pe_cmpR op_gt (pe_fld (pv 0) rfl) (pe_cst T.kFOUL_ABOVE rfl) (nomark _))), ?_⟩
    refine ⟨_, rfl, a, C.L, dx, _, _, rfl, hx, T.cL, T.nGas, rfl, _, _, rfl, rfl, ?_⟩
    have e : decide (10000 < v.gas) = decide ((10000 : Int) < (v.gas : Int)) := by
      by_cases q : 10000 < v.gas
      · rw [decide_eq_true q, decide_eq_true (by omega)]
      · rw [decide_eq_false q, decide_eq_false (by omega)]
    rw [e] at k
    exact k
def spGasAfter (C : Ad) : Sp := fun vs H Q _ => ∃ (a : Addr) (v : Lev) (n : Nat), vs = [.ref a, vN n] ∧ LvAt C H a v ∧ n ≤ 1000000 ∧ Q (vN (v.after n).gas) H
theorem sc_gas_after : FnScope ["level", "minutes"] ["level", "minutes"] (defScope t_gas_after) := ⟨rfl, rfl, rfl, by decide +kernel, rfl, by decide +kernel, by decide +kernel⟩
theorem cl_int (v : Lev) : (v.clear : Int) * ((b2n v.fan : Nat) : Int) = (cl v : Int) := by
  unfold b2n cl
  cases v.fan <;> simp
def spGain (C : Ad) : Sp := fun vs H Q _ => ∃ (a : Addr) (v : Lev), vs = [.ref a] ∧ LvAt C H a v ∧ Q (.int ((v.rate : Int) - (cl v : Int))) H
theorem sc_gain : FnScope ["level"] ["level"] (defScope t_gain_in_a_minute) := ⟨rfl, rfl, rfl, by decide +kernel, rfl, by decide +kernel, by decide +kernel⟩
theorem ok_gain (T : Txt K mg C) (D : Df K mg "gain_in_a_minute" t_gain_in_a_minute ["level"] f fd) : Kn P w K mg base 1 "gain_in_a_minute" ["level"] (spGain C) f fd := by
  refine D.kn (D.fn.ok sc_gain (fun vs H Q E h => ?_) (fun cdv A outer s H vs Q E hr h => ?_))
  · obtain ⟨a, v, rfl, _⟩ := h
    rfl
  · obtain ⟨a, v, rfl, ⟨dx, hx⟩, k⟩ := h
    refine ⟨_, pss_one (ps_ret (pe_op op_sub (pe_fld (pv 0) rfl) (pe_op op_mul (pe_fld (pv 0) rfl) (pe_fld (pv 0) rfl)))), ?_⟩
    refine ⟨_, rfl, a, C.L, dx, _, _, rfl, hx, T.cL, T.nRate, rfl, _, rfl, a, C.L, dx, _, _, rfl, hx, T.cL, T.nClears, rfl, _, rfl, a, C.L, dx, _, _, rfl, hx, T.cL, T.nFan, rfl,
      _, _, rfl, rfl, .inr ?_, _, _, rfl, rfl, ?_⟩
    · unfold b2n
      split <;> exact ⟨by decide, by decide⟩
    · show Q (V.int ((v.rate : Int) - (v.clear : Int) * ((b2n v.fan : Nat) : Int))) H
      rw [cl_int]
      exact k
theorem ok_gas_after (T : Txt K mg C) (D : Df K mg "gas_after" t_gas_after ["level", "minutes"] f fd) (G : Kn P w K mg base 1 "gain_in_a_minute" ["level"] (spGain C) fi fdi) : Kn P w K mg base 2 "gas_after" ["level", "minutes"] (spGasAfter C) f fd := by
  refine D.kn (D.fn.ok sc_gas_after (fun vs H Q E h => ?_) (fun cdv A outer s H vs Q E hr h => ?_))
  · obtain ⟨a, v, n, rfl, _⟩ := h
    rfl
  · obtain ⟨a, v, n, rfl, ⟨dx, hx⟩, hn, k⟩ := h
    refine ⟨_, pss_one (ps_ret (pe_callB (call_max2 rfl) (by rfl) T.bMax bootMax (pa_cons pe_int (pa_cons (pe_op op_add (pe_fld (pv 0) rfl) (pe_op op_mul (pv 1) (pe_fn G hr (pa_cons (pv 0) pa_nil)))) pa_nil)))), ?_⟩
    refine ⟨_, rfl, a, C.L, dx, _, _, rfl, hx, T.cL, T.nGas, rfl, _, rfl, _, rfl, a, v, rfl, ⟨dx, hx⟩, _, _, rfl, rfl, .inl ?_, _, _, rfl, rfl, _, _, rfl, ?_⟩
    · constructor <;> omega
    · have e := after_gas n v
      rw [← e]
      exact k
end
end Ms
set_option Elab.async false
set_option linter.all false
set_option maxRecDepth 100000
set_option maxHeartbeats 2000000
namespace Ms
open PySem PySem.Spec PyProof.Rows L2
section
variable {P : Program} {w : World} {K : PySem.W.Frag} {mg : Str → Option Value} {base : Heap} {C : Ad} {f f1 f2 f3 : Addr} {fd fd1 fd2 fd3 : FuncData}
theorem lt_line {n : Nat} (h : n ≤ 1000) : n < sizeLine := small1000 h
/-! ### how many are at a place; what hangs on the rope -/
/-- the numbers of those at a place -/
def atL (s : Shf) (k : Nat) : List Nat := (List.range s.persons.length).filter fun p => match s.persons[p]? with
  | some x => pl x == k
  | none => false
theorem atL_len (s : Shf) (k : Nat) : (atL s k).length = cnt s k := range_filter_len _ _ _ fun p x h => by simp only [h]
theorem atL_cage {s : Shf} (g : Good s) : atL s 9 = s.aboard := by
  unfold atL Km413.Shaft.aboard
  refine List.filter_congr fun p hp => ?_
  cases q : s.persons[p]? with
  | none => rfl
  | some x =>
    show (pl x == 9) = (x.place == .cage)
    rw [Bool.eq_iff_iff, beq_iff_eq, beq_iff_eq]
    exact pl_cage x (g.wh5 x (List.mem_of_getElem? q))
theorem atL_at {s : Shf} (g : Good s) {l : Nat} (hl : l ≤ 5) : atL s l = s.onLevel l := by
  unfold atL Km413.Shaft.onLevel
  refine List.filter_congr fun p hp => ?_
  cases q : s.persons[p]? with
  | none => rfl
  | some x =>
    show (pl x == l) = (x.place == .at_ l)
    rw [Bool.eq_iff_iff, beq_iff_eq, beq_iff_eq]
    exact pl_at x l (g.wh5 x (List.mem_of_getElem? q)) hl
def spAt (C : Ad) : Sp := fun vs H Q _ => ∃ (a : Addr) (s : Shf) (k : Nat), vs = [.ref a, vN k] ∧ Sh C H a s ∧ ∀ H' p, Same H H' → H p = none → H' p = some (.lst ((atL s k).map vN)) → Q (.ref p) H'
theorem sc_persons_at : FnScope ["shaft", "place", "number", "person"] ["shaft", "place"] (defScope t_persons_at) := ⟨rfl, rfl, rfl, by decide +kernel, rfl, by decide +kernel, by decide +kernel⟩
theorem dec_nat {a b : Nat} : decide (V.int (a : Int) = V.int (b : Int)) = (a == b) := by
  by_cases e : a = b
  · subst e; simp
  · rw [decide_eq_false (fun q => e (by injection q with q; omega))]
    exact (beq_eq_false_iff_ne.mpr e).symm
theorem ok_persons_at (T : Txt K mg C) (D : Df K mg "persons_at" t_persons_at ["shaft", "place"] f fd) : Kn P w K mg base 1 "persons_at" ["shaft", "place"] (spAt C) f fd := by
  refine D.kn (D.fn.ok sc_persons_at (fun vs H Q E h => ?_) (fun cdv A outer s H vs Q E hr h => ?_))
  · obtain ⟨a, s, k, rfl, _⟩ := h
    rfl
  · obtain ⟨a, s, k, rfl, ⟨g, o, S⟩, hk⟩ := h
    refine ⟨_, pss_one (ps_ret (pe_lc (own := [("number", 2), ("person", 3)]) (g := gTwo K 2 3) (tt := tTest (tOp rEq (tFld K (tVar 3) "place") (tVar 1))) (te := tVar 2) rfl sc_persons_at.nd (pi_enum (by rfl) T.bEnumerate (pa_cons (pe_fld (pv 0) rfl) pa_nil)) (blkOk_by rfl)
      (fun _ _ _ _ _ => pg_tup rfl (pgs_cons (pg_name (i := 2) sc_persons_at.nd rfl (Or.inl rfl)) (pgs_cons (pg_name (i := 3) sc_persons_at.nd rfl (Or.inl rfl)) pgs_nil))) (fun _ _ _ _ _ => pts_one (pt_cmpR op_eq (pe_fld (pv 3) rfl) (pv 1) (nomark _))) (fun _ _ _ _ _ => pv 2))), ?_⟩
    refine ⟨_, rfl, a, C.S, o.dx, _, _, rfl, S.me, T.cS, T.nPersons, rfl, o.pa, _, rfl, SqL.of S.pa, fun Dd hD => ?_⟩
    refine lc_en (K := K) (xs := o.ps.map V.ref) s.persons (fun p => match s.persons[p]? with | some x => pl x == k | none => false) vN (SqL.of S.pa) (by rw [List.length_map, S.ps.len]) (lt_line (Nat.le_trans g.ps (by decide))) hD (fun x y => rfl) ?_ ?_ ?_
    · intro j x y H1 k1 hx hy hs h3
      rw [List.getElem?_map] at hx
      obtain ⟨p, hp, rfl⟩ := Option.map_eq_some_iff.mp hx
      obtain ⟨dx, he⟩ := S.ps.at_ j _ _ hp hy
      refine ⟨_, rfl, p, C.P, dx, _, _, rfl, hs _ _ he, T.cP, T.nPlace, rfl, _, rfl, rfl, _, rfl, ?_⟩
      rw [dec_nat]
      have h3 := h3 H1 (Same.refl _)
      simp only [hy] at h3
      exact h3
    · intro j x y H1 k1 hx hy _ hs h4
      exact ⟨_, rfl, h4 _ (Same.refl _)⟩
    · intro H1 hs hd
      exact hk H1 Dd hs hD hd
def spCount (C : Ad) : Sp := fun vs H Q _ => ∃ (a : Addr) (s : Shf) (k : Nat), vs = [.ref a, vN k] ∧ Sh C H a s ∧ ∀ H', Same H H' → Q (vN (cnt s k)) H'
theorem sc_count_at : FnScope ["shaft", "place"] ["shaft", "place"] (defScope t_count_at) := ⟨rfl, rfl, rfl, by decide +kernel, rfl, by decide +kernel, by decide +kernel⟩
theorem ok_count_at (T : Txt K mg C) (D : Df K mg "count_at" t_count_at ["shaft", "place"] f fd) (G : Kn P w K mg base 1 "persons_at" ["shaft", "place"] (spAt C) f1 fd1) : Kn P w K mg base 2 "count_at" ["shaft", "place"] (spCount C) f fd := by
  refine D.kn (D.fn.ok sc_count_at (fun vs H Q E h => ?_) (fun cdv A outer s H vs Q E hr h => ?_))
  · obtain ⟨a, s, k, rfl, _⟩ := h
    rfl
  · obtain ⟨a, s, k, rfl, Sx, hk⟩ := h
    refine ⟨_, pss_one (ps_ret (pe_callB call_len_seq (by rfl) T.bLen bootLen (pa_cons (pe_fn G hr (pa_cons (pv 0) (pa_cons (pv 1) pa_nil))) pa_nil))), ?_⟩
    refine ⟨_, rfl, _, rfl, a, s, k, rfl, Sx, fun H1 p s1 _ h1 => ⟨p, _, rfl, .inl (SqL.of h1), ?_⟩⟩
    rw [List.length_map, atL_len]
    exact hk H1 s1
def spOnRope (C : Ad) : Sp := fun vs H Q _ => ∃ (a : Addr) (s : Shf), vs = [.ref a] ∧ Sh C H a s ∧ ∀ H', Same H H' → Q (vN s.load) H'
theorem sc_on_the_rope : FnScope ["shaft"] ["shaft"] (defScope t_on_the_rope) := ⟨rfl, rfl, rfl, by decide +kernel, rfl, by decide +kernel, by decide +kernel⟩
theorem ok_on_the_rope (T : Txt K mg C) (D : Df K mg "on_the_rope" t_on_the_rope ["shaft"] f fd) (G : Kn P w K mg base 2 "count_at" ["shaft", "place"] (spCount C) f1 fd1) : Kn P w K mg base 3 "on_the_rope" ["shaft"] (spOnRope C) f fd := by
  refine D.kn (D.fn.ok sc_on_the_rope (fun vs H Q E h => ?_) (fun cdv A outer s H vs Q E hr h => ?_))
  · obtain ⟨a, s, rfl, _⟩ := h
    rfl
  · obtain ⟨a, s, rfl, Sx, hk⟩ := h
    refine ⟨_, pss_one (ps_ret (pe_op op_add (pe_op op_add (pe_cst T.kCAGE_WEIGHT rfl) (pe_op op_mul (pe_cst T.kPERSON_WEIGHT rfl) (pe_fn G hr (pa_cons (pv 0) (pa_cons (pe_cst T.kIN_CAGE rfl) pa_nil))))) (pe_fld (pv 0) rfl))), ?_⟩
    refine ⟨_, rfl, a, s, 9, rfl, Sx, fun H1 s1 => ?_⟩
    obtain ⟨o, S⟩ := (Sx.same s1).at_
    refine ⟨_, _, rfl, rfl, .inl ⟨by decide, by decide⟩, _, _, rfl, rfl, _, rfl, a, C.S, o.dx, _, _, rfl, S.me, T.cS, T.nTub, rfl, _, _, rfl, rfl, ?_⟩
    have e : (1000 : Int) + 80 * ((cnt s 9 : Nat) : Int) + ((s.tub : Nat) : Int) = ((s.load : Nat) : Int) := by rw [load_eq Sx.good]; omega
    show Q (V.int ((1000 : Int) + 80 * ((cnt s 9 : Nat) : Int) + ((s.tub : Nat) : Int))) H1
    rw [e]
    exact hk H1 s1
/-! ### minutes go by -/
def spPass (C : Ad) : Sp := fun vs H Q _ => ∃ (H0 : Hp) (a : Addr) (s : Shf) (o : Ow) (n : Nat), vs = [.ref a, vN n] ∧ Tr C H0 H a s o ∧ n ≤ 1000000 ∧ ∀ H', Tr C H0 H' a (s.minutes n) o → Q .non H'
theorem sc_pass_minutes : FnScope ["shaft", "minutes", "level"] ["shaft", "minutes"] (defScope t_pass_minutes) := ⟨rfl, rfl, rfl, by decide +kernel, rfl, by decide +kernel, by decide +kernel⟩
/-- the first i of all levels (above ground is the first) a while later -/
def part (n : Nat) (l : List Lev) (i : Nat) : List Lev := (l.take (i - 1)).map (Km413.Level.after n) ++ l.drop (i - 1)
theorem v0_after (n : Nat) : v0.after n = v0 := by
  have h := after_same n v0
  have g := after_gas n v0
  have e : (v0.after n).gas = 0 := by
    have : ((v0.after n).gas : Int) = 0 := by
      rw [g]
      show (if (((0 : Nat) : Int) + (n : Int) * (((0 : Nat) : Int) - ((0 : Nat) : Int)) > 0) then _ else (0 : Int)) = 0
      simp [v0, cl]
    omega
  obtain ⟨h1, h2, h3, h4, h5⟩ := h
  generalize v0.after n = u at *
  obtain ⟨⟩ := u
  simp only [v0] at *
  subst h1 h2 h3 h4 h5 e
  rfl
theorem part_step (n : Nat) (l : List Lev) (i : Nat) {v : Lev} (h : (v0 :: part n l i)[i]? = some v) (hi : i ≤ l.length) : (v0 :: part n l i).set i (v.after n) = v0 :: part n l (i + 1) := by
  cases i with
  | zero =>
    have e : v0 = v := by simpa using h
    subst e
    rw [v0_after]
    rfl
  | succ i =>
    have e1 : part n l (i + 1) = (l.take i).map (Km413.Level.after n) ++ l.drop i := rfl
    have e2 : part n l (i + 1 + 1) = (l.take (i + 1)).map (Km413.Level.after n) ++ l.drop (i + 1) := rfl
    have hi' : i < l.length := hi
    have hl : ((l.take i).map (Km413.Level.after n)).length = i := by rw [List.length_map, List.length_take]; omega
    have ed : l.drop i = l[i] :: l.drop (i + 1) := List.drop_eq_getElem_cons hi'
    have hv : v = l[i] := by
      rw [List.getElem?_cons_succ, e1, ed, List.getElem?_append_right (by rw [hl]; exact Nat.le_refl _), hl] at h
      rw [Nat.sub_self] at h
      exact (Option.some.inj h).symm
    show v0 :: (part n l (i + 1)).set i (v.after n) = _
    have e3 : ((l.take i).map (Km413.Level.after n) ++ l.drop i).set i (v.after n) = (l.take i).map (Km413.Level.after n) ++ (v.after n :: l.drop (i + 1)) := by
      rw [ed, List.set_append_right _ _ (by rw [hl]; exact Nat.le_refl _), hl, Nat.sub_self]
      rfl
    have e4 : (l.take (i + 1)).map (Km413.Level.after n) = (l.take i).map (Km413.Level.after n) ++ [v.after n] := by
      rw [List.take_add_one, List.getElem?_eq_getElem hi', hv, List.map_append]
      rfl
    rw [e1, e2, e3, e4, List.append_assoc]
    rfl
theorem ok_pass_minutes (T : Txt K mg C) (D : Df K mg "pass_minutes" t_pass_minutes ["shaft", "minutes"] f fd) (G : Kn P w K mg base 2 "gas_after" ["level", "minutes"] (spGasAfter C) f1 fd1) : Kn P w K mg base 3 "pass_minutes" ["shaft", "minutes"] (spPass C) f fd := by
  refine D.kn (D.fn.ok sc_pass_minutes (fun vs H Q E h => ?_) (fun cdv A outer s H vs Q E hr h => ?_))
  · obtain ⟨H0, a, s, o, n, rfl, _⟩ := h
    rfl
  · obtain ⟨H0, a, s, o, n, rfl, R, hn, hk⟩ := h
    refine ⟨_, pss_cons (ps_fldaug (pv 0) (pv 1) in_add) (pss_one (ps_for PassesOwn.never rfl (pi_list (pe_fld (pv 0) rfl)) (pg_name (i := 2) sc_pass_minutes.nd rfl (Or.inl rfl))
      (pss_one (ps_fld (pv 2) (pe_fn G hr (pa_cons (pv 2) (pa_cons (pv 1) pa_nil))) rfl)))), ?_⟩
    refine ⟨_, rfl, a, C.S, o.dx, _, _, rfl, R.sh.me, T.cS, T.nMinute, rfl, _, rfl, _, _, rfl, rfl, o.dx, _, R.sh.me, (by show 12 < 1000; decide), ?_⟩
    have e1 : putF "minute" (V.int (((s.time : Nat) : Int) + (n : Int))) (shF s o) = shF { s with time := s.time + n } o := by
      rw [← Int.natCast_add]
      rfl
    rw [e1]
    have R1 := R.fld (t := { s with time := s.time + n }) rfl rfl rfl
    refine ⟨_, rfl, a, C.S, o.dx, _, _, rfl, R1.sh.me, T.cS, T.nLevels, rfl, o.la, rfl, ⟨_, SqL.of R1.sh.la⟩, ?_⟩
    refine for_list (K := K) (a := o.la) (xs := o.ls.map V.ref) (fun i σ H' => ∃ v : Option V, σ = [some (.ref a), some (vN n), v] ∧ Tr C H0 H' a { s with time := s.time + n, levels := part n s.levels i } o)
      ⟨none, rfl, R1⟩ (fun i σ H' _ ⟨_, _, R2⟩ => SqL.of R2.sh.la) ?_ ?_
    · rintro i y σ H' hi ⟨v, rfl, R2⟩
      rw [List.getElem?_map] at hi
      obtain ⟨x, hx, rfl⟩ := Option.map_eq_some_iff.mp hi
      obtain ⟨u, hu, dx, he⟩ := R2.sh.lv.get hx
      have hil : i ≤ s.levels.length := by
        have h1 := (List.getElem?_eq_some_iff.mp hx).1
        have h2 := R.sh.lv.len
        rw [List.length_cons] at h2
        omega
      refine ⟨_, rfl, _, rfl, x, u, n, rfl, ⟨dx, he⟩, hn, _, rfl, x, C.L, dx, _, rfl, he, T.cL, T.nGas, (by show 6 < 1000; decide), ?_⟩
      have e2 : putF "gas" (vN (u.after n).gas) (lvF u) = lvF (u.after n) := by
        obtain ⟨h1, h2, h3, h4, h5⟩ := after_same n u
        unfold lvF
        rw [h1, h2, h3, h4, h5]
        rfl
      rw [e2]
      exact ⟨_, rfl, R2.lev hx he (part_step n s.levels i hu hil)⟩
    · rintro σ H' ⟨v, rfl, R2⟩
      have hl := R.sh.lv.len
      rw [List.length_cons] at hl
      have e3 : part n s.levels (o.ls.map V.ref).length = s.levels.map (Km413.Level.after n) := by
        unfold part
        rw [List.length_map, hl, Nat.add_sub_cancel, List.take_length, List.drop_length, List.append_nil]
      rw [e3] at R2
      rw [minutes_eq] at hk
      exact hk H' R2
end
end Ms
set_option Elab.async false
set_option linter.all false
set_option maxRecDepth 100000
set_option maxHeartbeats 4000000
namespace Ms
open PySem PySem.Spec PyProof.Rows L2
section
variable {P : Program} {w : World} {K : PySem.W.Frag} {mg : Str → Option Value} {base : Heap} {C : Ad} {f f1 f2 f3 : Addr} {fd fd1 fd2 fd3 : FuncData}
/-- a new object and its __init__ leave all that was tracked -/
theorem made_same {H H1 : Hp} {x dx D : Addr} (nx : H x = none) (nd : H dx = none) (k : ∀ b o, (upd (upd H dx (.own x)) x (.ins D dx [])) b = some o → b ≠ x → H1 b = some o) : Same H H1 := Same.made nx nd k
/-! ### a level's twin -/
def spCopyLevel (C : Ad) : Sp := fun vs H Q _ => ∃ (a : Addr) (v : Lev), vs = [.ref a] ∧ LvAt C H a v ∧ ∀ H' r, Same H H' → H r = none → LvAt C H' r v → Q (.ref r) H'
theorem sc_copy_of_level : FnScope ["level", "twin"] ["level"] (defScope t_copy_of_level) := ⟨rfl, rfl, rfl, by decide +kernel, rfl, by decide +kernel, by decide +kernel⟩
theorem ok_copy_of_level (T : Txt K mg C) (D : Df K mg "copy_of_level" t_copy_of_level ["level"] f fd) (G : Kc P w K mg base 1 "Level" ["self", "depth", "rate", "clears"] (spLevel C) C.L f1 fd1) :
    Kn P w K mg base 3 "copy_of_level" ["level"] (spCopyLevel C) f fd := by
  refine D.kn (D.fn.ok sc_copy_of_level (fun vs H Q E h => ?_) (fun cdv A outer s H vs Q E hr h => ?_))
  · obtain ⟨a, v, rfl, _⟩ := h
    rfl
  · obtain ⟨a, v, rfl, ⟨da, ha⟩, hk⟩ := h
    refine ⟨_, pss_cons (ps_set (i := 1) sc_copy_of_level.nd rfl (Or.inl rfl) (pe_new G hr (pa_cons (pe_fld (pv 0) rfl) (pa_cons (pe_fld (pv 0) rfl) (pa_cons (pe_fld (pv 0) rfl) pa_nil)))))
      (pss_cons (ps_fld (pv 1) (pe_fld (pv 0) rfl) rfl) (pss_cons (ps_fld (pv 1) (pe_fld (pv 0) rfl) rfl) (pss_cons (ps_fld (pv 1) (pe_fld (pv 0) rfl) rfl) (pss_one (ps_ret (pv 1)))))), ?_⟩
    refine ⟨_, rfl, a, C.L, da, _, _, rfl, ha, T.cL, T.nDepth, rfl, _, rfl, a, C.L, da, _, _, rfl, ha, T.cL, T.nRate, rfl, _, rfl, a, C.L, da, _, _, rfl, ha, T.cL, T.nClears, rfl, ?_⟩
    intro x dx nx ndx ne
    refine ⟨x, dx, v.depth, v.rate, v.clear, rfl, upd_same, fun H1 ⟨dx1, h1⟩ k1 => ⟨rfl, ?_⟩⟩
    have s1 : Same H H1 := made_same nx ndx k1
    have ax : a ≠ x := ne_of_none ha nx
    have a1 : H1 a = some (.ins C.L da (lvF v)) := s1 _ _ ha
    refine ⟨_, rfl, a, C.L, da, _, _, rfl, a1, T.cL, T.nFan, rfl, _, rfl, x, C.L, dx1, _, rfl, h1, T.cL, T.nFan, (by show 6 < 1000; decide), ?_⟩
    refine ⟨_, rfl, a, C.L, da, _, _, rfl, (upd_ne ax).trans a1, T.cL, T.nGas, rfl, _, rfl, x, C.L, dx1, _, rfl, upd_same, T.cL, T.nGas, (by show 6 < 1000; decide), ?_⟩
    refine ⟨_, rfl, a, C.L, da, _, _, rfl, (upd_ne ax).trans ((upd_ne ax).trans a1), T.cL, T.nOre, rfl, _, rfl, x, C.L, dx1, _, rfl, upd_same, T.cL, T.nOre, (by show 6 < 1000; decide), ?_⟩
    refine ⟨_, rfl, ?_⟩
    refine hk _ x (fun b o e => ?_) nx ⟨dx1, upd_same.trans rfl⟩
    have bx : b ≠ x := ne_of_none e nx
    rw [upd_ne bx, upd_ne bx, upd_ne bx]
    exact s1 _ _ e
/-! ### a new shaft -/
def spShaft (C : Ad) : Sp := fun vs H Q _ => ∃ (p dx : Addr) (r1 r2 r3 : Nat), vs = [.ref p, vN r1, vN r2, vN r3] ∧ H p = some (.ins C.S dx []) ∧
  ∀ (H' : Hp) (o : Ow), ShAt C H' p (Km413.opened r1 r2 r3) o → (∀ b u, H b = some u → b ≠ p → H' b = some u) → (∀ x ∈ adr p o, x = p ∨ H x = none) → Q .non H'
theorem scShaft : FnScope ["self", "room", "rope", "speed"] ["self", "room", "rope", "speed"] (defScope tShaft) := ⟨rfl, rfl, rfl, by decide +kernel, rfl, by decide +kernel, by decide +kernel⟩
theorem okShaft (T : Txt K mg C) (D : Dc K mg "Shaft" "Shaft.__init__" tShaft ["self", "room", "rope", "speed"] C.S f fd) (G : Kc P w K mg base 1 "Level" ["self", "depth", "rate", "clears"] (spLevel C) C.L f1 fd1) :
    Kc P w K mg base 3 "Shaft" ["self", "room", "rope", "speed"] (spShaft C) C.S f fd := by
  refine D.kc (D.fn.ok scShaft (fun vs H Q E h => ?_) (fun cdv A outer s H vs Q E hr h => ?_))
  · obtain ⟨p, dx, r1, r2, r3, rfl, _⟩ := h
    rfl
  · obtain ⟨p, dx, r1, r2, r3, rfl, hp, hk⟩ := h
    refine ⟨_, pss_cons (ps_fld (pv 0) (pv 1) rfl) (pss_cons (ps_fld (pv 0) (pv 2) rfl) (pss_cons (ps_fld (pv 0) (pv 3) rfl) (pss_cons (ps_fld (pv 0) pe_int rfl) (pss_cons (ps_fld (pv 0) pe_int rfl)
      (pss_cons (ps_fld (pv 0) (pe_lst (pa_cons (pe_new G hr (pa_cons pe_int (pa_cons pe_int (pa_cons pe_int pa_nil)))) pa_nil)) rfl) (pss_cons (ps_fld (pv 0) (pe_lst pa_nil) rfl)
      (pss_cons (ps_fld (pv 0) pe_int rfl) (pss_cons (ps_fld (pv 0) pe_int rfl) (pss_cons (ps_fld (pv 0) pe_int rfl) (pss_cons (ps_fld (pv 0) pe_int rfl) (pss_one (ps_fld (pv 0) (pe_lst pa_nil) rfl)))))))))))), ?_⟩
    refine ⟨_, rfl, _, rfl, p, C.S, dx, _, rfl, hp, T.cS, T.nRoom, (by show 0 < 1000; decide), ?_⟩
    refine ⟨_, rfl, _, rfl, p, C.S, dx, _, rfl, upd_same, T.cS, T.nRope, (by show 1 < 1000; decide), ?_⟩
    refine ⟨_, rfl, _, rfl, p, C.S, dx, _, rfl, upd_same, T.cS, T.nSpeed, (by show 2 < 1000; decide), ?_⟩
    refine ⟨_, rfl, p, C.S, dx, _, rfl, upd_same, T.cS, T.nWorn, (by show 3 < 1000; decide), ?_⟩
    refine ⟨_, rfl, p, C.S, dx, _, rfl, upd_same, T.cS, T.nMinute, (by show 4 < 1000; decide), ?_⟩
    simp only [upd_upd]
    generalize e5 : upd H p _ = H5
    have k5 : ∀ b u, H b = some u → b ≠ p → H5 b = some u := fun b u e ne => by rw [← e5, upd_ne ne]; exact e
    have p5 : H5 p = some (.ins C.S dx [("room", vN r1), ("rope", vN r2), ("speed", vN r3), ("worn", vN 0), ("minute", vN 0)]) := by rw [← e5]; exact upd_same.trans rfl
    have n5 : ∀ x, H5 x = none → x ≠ p ∧ H x = none := fun x hx => by
      have ne : x ≠ p := fun q => by rw [q, p5] at hx; cases hx
      rw [← e5, upd_ne ne] at hx
      exact ⟨ne, hx⟩
    clear e5
    intro x dx1 nx ndx ne
    refine ⟨x, dx1, 0, 0, 0, rfl, upd_same, fun H6 ⟨dx2, h6⟩ k6 => ⟨rfl, ?_⟩⟩
    have s6 : Same H5 H6 := made_same nx ndx k6
    refine ⟨(by show 1 ≤ sizeLine; decide), fun l hl => ?_⟩
    have lp : l ≠ p := fun q => by rw [q, s6 _ _ p5] at hl; cases hl
    have lx : l ≠ x := fun q => by rw [q, h6] at hl; cases hl
    refine ⟨_, rfl, p, C.S, dx, _, rfl, (upd_ne (Ne.symm lp)).trans (s6 _ _ p5), T.cS, T.nLevels, (by show 5 < 1000; decide), ?_⟩
    refine ⟨(by show 0 ≤ sizeLine; decide), fun l2 hl2 => ?_⟩
    have q2 : l2 ≠ p := fun q => by rw [q, upd_same] at hl2; cases hl2
    rw [upd_ne q2] at hl2
    have q3 : l2 ≠ l := fun q => by rw [q, upd_same] at hl2; cases hl2
    rw [upd_ne q3] at hl2
    have q4 : l2 ≠ x := fun q => by rw [q, h6] at hl2; cases hl2
    refine ⟨_, rfl, p, C.S, dx, _, rfl, (upd_ne (Ne.symm q2)).trans upd_same, T.cS, T.nPersons, (by show 6 < 1000; decide), ?_⟩
    refine ⟨_, rfl, p, C.S, dx, _, rfl, upd_same, T.cS, T.nCage, (by show 7 < 1000; decide), ?_⟩
    refine ⟨_, rfl, p, C.S, dx, _, rfl, upd_same, T.cS, T.nTub, (by show 8 < 1000; decide), ?_⟩
    refine ⟨_, rfl, p, C.S, dx, _, rfl, upd_same, T.cS, T.nDumped, (by show 9 < 1000; decide), ?_⟩
    refine ⟨_, rfl, p, C.S, dx, _, rfl, upd_same, T.cS, T.nMined, (by show 10 < 1000; decide), ?_⟩
    refine ⟨(by show 0 ≤ sizeLine; decide), fun l3 hl3 => ?_⟩
    simp only [upd_upd] at hl3 ⊢
    have z1 : l3 ≠ p := fun q => by rw [q, upd_same] at hl3; cases hl3
    rw [upd_ne z1] at hl3
    have z2 : l3 ≠ l2 := fun q => by rw [q, upd_same] at hl3; cases hl3
    rw [upd_ne z2, upd_ne z1] at hl3
    have z3 : l3 ≠ l := fun q => by rw [q, upd_same] at hl3; cases hl3
    rw [upd_ne z3] at hl3
    have z4 : l3 ≠ x := fun q => by rw [q, h6] at hl3; cases hl3
    refine ⟨_, rfl, p, C.S, dx, _, rfl, (upd_ne (Ne.symm z1)).trans upd_same, T.cS, T.nLocks, (by show 11 < 1000; decide), ?_⟩
    have xp : x ≠ p := (n5 x nx).1
    refine hk _ ⟨dx, l, l2, l3, [x], [], []⟩ ⟨upd_same.trans rfl, ?_, ?_, ?_, ?_, ⟨rfl, fun i a b h => by simp at h⟩, ⟨rfl, fun i a b h => by simp at h⟩, by simp, by simp, by simp, Ne.symm q3, Ne.symm z3, Ne.symm z2, fun k hk => by simp at hk⟩ (fun b u e ne => ?_) (fun y hy => ?_)
    · show upd _ p _ l = _
      rw [upd_ne lp, upd_ne (Ne.symm z3), upd_ne lp, upd_ne (Ne.symm q3), upd_ne lp]
      exact upd_same
    · show upd _ p _ l2 = _
      rw [upd_ne q2, upd_ne (Ne.symm z2), upd_ne q2]
      exact upd_same
    · show upd _ p _ l3 = _
      rw [upd_ne z1]
      exact upd_same
    · refine Al.cons ⟨dx2, ?_⟩ Al.nil
      rw [upd_ne xp, upd_ne (Ne.symm z4), upd_ne xp, upd_ne (Ne.symm q4), upd_ne xp, upd_ne (Ne.symm lx)]
      exact h6
    · have b5 := s6 _ _ (k5 b u e ne)
      have bl : b ≠ l := fun q => by rw [← q, b5] at hl; cases hl
      have bl2 : b ≠ l2 := fun q => by rw [← q, b5] at hl2; cases hl2
      have bl3 : b ≠ l3 := fun q => by rw [← q, b5] at hl3; cases hl3
      rw [upd_ne ne, upd_ne bl3, upd_ne ne, upd_ne bl2, upd_ne ne, upd_ne bl]
      exact b5
    · have fr : ∀ y, H6 y = none → H y = none := fun y h => (n5 y (s6.free h)).2
      simp [adr] at hy
      rcases hy with rfl | rfl | rfl | rfl | rfl
      · exact .inl rfl
      · exact .inr (fr _ hl)
      · exact .inr (fr _ hl2)
      · exact .inr (fr _ hl3)
      · exact .inr (n5 _ nx).2
end
end Ms
set_option Elab.async false
set_option linter.all false
set_option maxRecDepth 100000
set_option maxHeartbeats 4000000
namespace Ms
open PySem PySem.Spec PyProof.Rows L2
section
variable {P : Program} {w : World} {K : PySem.W.Frag} {mg : Str → Option Value} {base : Heap} {C : Ad} {f f1 f2 f3 : Addr} {fd fd1 fd2 fd3 : FuncData}
def spCopy (C : Ad) : Sp := fun vs H Q _ => ∃ (a : Addr) (s : Shf), vs = [.ref a] ∧ Sh C H a s ∧ ∀ H' t o, Tr C H H' t s o → Q (.ref t) H'
theorem sc_copy_of_shaft : FnScope ["shaft", "twin", "level", "person", "doors"] ["shaft"] (defScope t_copy_of_shaft) := ⟨rfl, rfl, rfl, by decide +kernel, rfl, by decide +kernel, by decide +kernel⟩
/-- t alone changes -/
theorem keep_upd {H : Hp} {t : Addr} {u : HO} : ∀ b o, H b = some o → b ≠ t → upd H t u b = some o := fun b o e ne => by rw [upd_ne ne]; exact e
theorem same_upd {H H1 : Hp} {t : Addr} {u : HO} (e : Same H H1) (n : H t = none) : Same H (upd H1 t u) := fun b o h => by rw [upd_ne (ne_of_none h n)]; exact e b o h
theorem ok_copy_of_shaft (T : Txt K mg C) (D : Df K mg "copy_of_shaft" t_copy_of_shaft ["shaft"] f fd) (GS : Kc P w K mg base 3 "Shaft" ["self", "room", "rope", "speed"] (spShaft C) C.S f1 fd1)
    (GP : Kc P w K mg base 1 "Person" ["self", "place", "since"] (spPerson C) C.P f2 fd2) (GL : Kn P w K mg base 3 "copy_of_level" ["level"] (spCopyLevel C) f3 fd3) :
    Kn P w K mg base 5 "copy_of_shaft" ["shaft"] (spCopy C) f fd := by
  refine D.kn (D.fn.ok sc_copy_of_shaft (fun vs H Q E h => ?_) (fun cdv A outer s H vs Q E hr h => ?_))
  · obtain ⟨a, s, rfl, _⟩ := h
    rfl
  · obtain ⟨a, s, rfl, ⟨g, o, S⟩, hk⟩ := h
    refine ⟨_, pss_cons (ps_set (i := 1) sc_copy_of_shaft.nd rfl (Or.inl rfl) (pe_new GS hr (pa_cons (pe_fld (pv 0) rfl) (pa_cons (pe_fld (pv 0) rfl) (pa_cons (pe_fld (pv 0) rfl) pa_nil)))))
      (pss_cons (ps_fld (pv 1) (pe_fld (pv 0) rfl) rfl) (pss_cons (ps_fld (pv 1) (pe_fld (pv 0) rfl) rfl)
      (pss_cons (ps_fld (pv 1) (pe_lc (own := [("level", 2)]) rfl sc_copy_of_shaft.nd (pi_list (pe_fld (pv 0) rfl)) (blkOk_by rfl) (fun _ _ _ _ _ => pg_name (i := 2) sc_copy_of_shaft.nd rfl (Or.inl rfl)) (fun _ _ _ _ _ => pts_nil)
        (fun _ _ _ _ _ => pe_fn GL hr (pa_cons (pv 2) pa_nil))) rfl)
      (pss_cons (ps_fld (pv 1) (pe_lc (own := [("person", 3)]) (te := tMake C.P (spPerson C) [] E0 (tCons (tFld K (tVar 3) "place") (tCons (tFld K (tVar 3) "since") tNil))) rfl sc_copy_of_shaft.nd (pi_list (pe_fld (pv 0) rfl)) (blkOk_by rfl) (fun _ _ _ _ _ => pg_name (i := 3) sc_copy_of_shaft.nd rfl (Or.inl rfl)) (fun _ _ _ _ _ => pts_nil)
        (fun _ _ _ _ _ => pe_new GP hr (pa_cons (pe_fld (pv 3) rfl) (pa_cons (pe_fld (pv 3) rfl) pa_nil)))) rfl)
      (pss_cons (ps_fld (pv 1) (pe_fld (pv 0) rfl) rfl) (pss_cons (ps_fld (pv 1) (pe_fld (pv 0) rfl) rfl) (pss_cons (ps_fld (pv 1) (pe_fld (pv 0) rfl) rfl) (pss_cons (ps_fld (pv 1) (pe_fld (pv 0) rfl) rfl)
      (pss_cons (ps_fld (pv 1) (pe_lc (own := [("doors", 4)]) (te := tCB (fun xs H Q => ∃ p ys, xs = [V.ref p] ∧ (SqL K H p ys ∨ SqT K H p ys) ∧ ∀ l, H l = none → Q (.ref l) (upd H l (.lst ys))) (tCons (tVar 4) tNil)) rfl sc_copy_of_shaft.nd (pi_list (pe_fld (pv 0) rfl)) (blkOk_by rfl) (fun _ _ _ _ _ => pg_name (i := 4) sc_copy_of_shaft.nd rfl (Or.inl rfl)) (fun _ _ _ _ _ => pts_nil)
        (fun _ _ _ _ _ => pe_callTy call_list_of (by rfl) T.bList bootList (pa_cons (pv 4) pa_nil))) rfl)
      (pss_one (ps_ret (pv 1)))))))))))), ?_⟩
    -- twin = Shaft(..)
    refine ⟨_, rfl, a, C.S, o.dx, _, _, rfl, S.me, T.cS, T.nRoom, rfl, _, rfl, a, C.S, o.dx, _, _, rfl, S.me, T.cS, T.nRope, rfl, _, rfl, a, C.S, o.dx, _, _, rfl, S.me, T.cS, T.nSpeed, rfl, ?_⟩
    intro t dt nt ndt _
    refine ⟨t, dt, s.room, s.rope, s.speed, rfl, upd_same, fun H1 o1 S1 k1 _ => ⟨rfl, ?_⟩⟩
    have s1 : Same H H1 := made_same nt ndt k1
    have at_ : a ≠ t := ne_of_none S.me nt
    have m1 := s1 _ _ S.me
    refine ⟨_, rfl, a, C.S, o.dx, _, _, rfl, m1, T.cS, T.nWorn, rfl, _, rfl, t, C.S, o1.dx, _, rfl, S1.me, T.cS, T.nWorn, (by show 12 < 1000; decide), ?_⟩
    refine ⟨_, rfl, a, C.S, o.dx, _, _, rfl, (upd_ne at_).trans m1, T.cS, T.nMinute, rfl, _, rfl, t, C.S, o1.dx, _, rfl, upd_same, T.cS, T.nMinute, (by show 12 < 1000; decide), ?_⟩
    rw [upd_upd]
    generalize e3 : upd H1 t _ = H3
    have s3 : Same H H3 := by rw [← e3]; exact same_upd s1 nt
    have t3 : H3 t = some (.ins C.S o1.dx (shF { Km413.opened s.room s.rope s.speed with worn := s.worn, time := s.time } o1)) := by rw [← e3]; exact upd_same.trans rfl
    clear e3
    have S3 := S.same s3
    -- levels
    refine ⟨_, rfl, a, C.S, o.dx, _, _, rfl, S3.me, T.cS, T.nLevels, rfl, o.la, rfl, ⟨_, SqL.of S3.la⟩, fun D1 hD1 => ?_⟩
    refine lc_new (K := K) (xs := o.ls.map V.ref) (v0 :: s.levels) (LvAt C) (fun H H' r y e ⟨d, h⟩ => ⟨d, e.trans h⟩) (fun H r y ⟨d, h⟩ => ⟨_, h⟩) (SqL.of S3.la) (by rw [List.length_map, S.lv.len])
      (by rw [List.length_cons]; exact lt_line (Nat.le_trans (Nat.succ_le_succ g.lv) (by decide))) hD1 (fun x => rfl) ?_ ?_
    · intro j x y Hh k hx hy hs h4
      rw [List.getElem?_map] at hx
      obtain ⟨p, hp, rfl⟩ := Option.map_eq_some_iff.mp hx
      obtain ⟨d, he⟩ := S3.lv.at_ j _ _ hp hy
      exact ⟨_, rfl, p, y, rfl, ⟨d, hs _ _ he⟩, h4⟩
    intro H4 rs1 s4 l4 al4 nd4 fr4
    have t4 := s4 _ _ t3
    refine ⟨_, rfl, t, C.S, o1.dx, _, rfl, t4, T.cS, T.nLevels, (by show 12 < 1000; decide), ?_⟩
    generalize e5 : upd H4 t _ = H5
    have k5 : ∀ b u, H4 b = some u → b ≠ t → H5 b = some u := by rw [← e5]; exact keep_upd
    have s5 : Same H H5 := by rw [← e5]; exact same_upd (s3.trans s4) nt
    have t5 : H5 t = some (.ins C.S o1.dx (shF { Km413.opened s.room s.rope s.speed with worn := s.worn, time := s.time } { o1 with la := D1 })) := by rw [← e5]; exact upd_same.trans rfl
    clear e5
    have D1t : D1 ≠ t := fun q => by rw [q, t3] at hD1; cases hD1
    have l5 := k5 _ _ l4 D1t
    have al5 : Al (LvAt C H5) rs1 (v0 :: s.levels) := al4.keep fun x hx v ⟨d, e⟩ => ⟨d, k5 _ _ e fun q => by rw [q] at hx; have := (fr4 t hx).1; rw [t3] at this; cases this⟩
    have S5 := S.same s5
    -- persons
    refine ⟨_, rfl, a, C.S, o.dx, _, _, rfl, S5.me, T.cS, T.nPersons, rfl, o.pa, rfl, ⟨_, SqL.of S5.pa⟩, fun D2 hD2 => ?_⟩
    refine lc_new (K := K) (xs := o.ps.map V.ref) s.persons (PsAt C) (fun H H' r y e ⟨d, h⟩ => ⟨d, e.trans h⟩) (fun H r y ⟨d, h⟩ => ⟨_, h⟩) (SqL.of S5.pa) (by rw [List.length_map, S.ps.len])
      (lt_line (Nat.le_trans g.ps (by decide))) hD2 (fun x => rfl) ?_ ?_
    · intro j x y Hh k hx hy hs h4
      rw [List.getElem?_map] at hx
      obtain ⟨p, hp, rfl⟩ := Option.map_eq_some_iff.mp hx
      obtain ⟨d, he⟩ := S5.ps.at_ j _ _ hp hy
      refine ⟨_, rfl, p, C.P, d, _, _, rfl, hs _ _ he, T.cP, T.nPlace, rfl, _, rfl, p, C.P, d, _, _, rfl, hs _ _ he, T.cP, T.nSince, rfl, ?_⟩
      intro x dx nx ndx _
      exact ⟨x, dx, pl y, y.since, rfl, upd_same, fun Hn hn kn => ⟨rfl, h4 Hn x (made_same nx ndx kn) nx ⟨dx, hn⟩⟩⟩
    intro H6 rs2 s6 l6 al6 nd6 fr6
    have t6 := s6 _ _ t5
    refine ⟨_, rfl, t, C.S, o1.dx, _, rfl, t6, T.cS, T.nPersons, (by show 12 < 1000; decide), ?_⟩
    have m6 := s6 _ _ S5.me
    refine ⟨_, rfl, a, C.S, o.dx, _, _, rfl, (upd_ne at_).trans m6, T.cS, T.nCage, rfl, _, rfl, t, C.S, o1.dx, _, rfl, upd_same, T.cS, T.nCage, (by show 12 < 1000; decide), ?_⟩
    rw [upd_upd]
    refine ⟨_, rfl, a, C.S, o.dx, _, _, rfl, (upd_ne at_).trans m6, T.cS, T.nTub, rfl, _, rfl, t, C.S, o1.dx, _, rfl, upd_same, T.cS, T.nTub, (by show 12 < 1000; decide), ?_⟩
    rw [upd_upd]
    refine ⟨_, rfl, a, C.S, o.dx, _, _, rfl, (upd_ne at_).trans m6, T.cS, T.nDumped, rfl, _, rfl, t, C.S, o1.dx, _, rfl, upd_same, T.cS, T.nDumped, (by show 12 < 1000; decide), ?_⟩
    rw [upd_upd]
    refine ⟨_, rfl, a, C.S, o.dx, _, _, rfl, (upd_ne at_).trans m6, T.cS, T.nMined, rfl, _, rfl, t, C.S, o1.dx, _, rfl, upd_same, T.cS, T.nMined, (by show 12 < 1000; decide), ?_⟩
    rw [upd_upd]
    generalize e8 : upd H6 t _ = H8
    have k8 : ∀ b u, H6 b = some u → b ≠ t → H8 b = some u := by rw [← e8]; exact keep_upd
    have s8 : Same H H8 := by rw [← e8]; exact same_upd (s5.trans s6) nt
    have t8 : H8 t = some (.ins C.S o1.dx (shF s { o1 with la := D1, pa := D2 })) := by rw [← e8]; exact upd_same.trans rfl
    clear e8
    have D2t : D2 ≠ t := fun q => by rw [q, t5] at hD2; cases hD2
    have l8 := k8 _ _ (s6 _ _ l5) D1t
    have p8 := k8 _ _ l6 D2t
    have al8 : Al (LvAt C H8) rs1 (v0 :: s.levels) := al5.keep fun x hx v ⟨d, e⟩ => ⟨d, k8 _ _ (s6 _ _ e) fun q => by rw [q] at hx; have := (fr4 t hx).1; rw [t3] at this; cases this⟩
    have ap8 : Al (PsAt C H8) rs2 s.persons := al6.keep fun x hx v ⟨d, e⟩ => ⟨d, k8 _ _ e fun q => by rw [q] at hx; have := (fr6 t hx).1; rw [t5] at this; cases this⟩
    have S8 := S.same s8
    -- locks
    refine ⟨_, rfl, a, C.S, o.dx, _, _, rfl, S8.me, T.cS, T.nLocks, rfl, o.ka, rfl, ⟨_, SqL.of S8.ka⟩, fun D3 hD3 => ?_⟩
    refine lc_new (K := K) (xs := o.ks.map V.ref) s.locks LkAt (fun H H' r y e h => e.trans h) (fun H r y h => ⟨_, h⟩) (SqL.of S8.ka) (by rw [List.length_map, S.lk.len])
      (lt_line (Nat.le_trans g.lk (by decide))) hD3 (fun x => rfl) ?_ ?_
    · intro j x y Hh k hx hy hs h4
      rw [List.getElem?_map] at hx
      obtain ⟨p, hp, rfl⟩ := Option.map_eq_some_iff.mp hx
      have he := hs _ _ (S8.lk.at_ j _ _ hp hy)
      exact ⟨_, rfl, p, _, rfl, .inl (SqL.of he), fun l hl => h4 _ l (Same.upd_new hl) hl upd_same⟩
    intro H9 rs3 s9 l9 al9 nd9 fr9
    have t9 := s9 _ _ t8
    refine ⟨_, rfl, t, C.S, o1.dx, _, rfl, t9, T.cS, T.nLocks, (by show 12 < 1000; decide), ?_⟩
    refine ⟨_, rfl, ?_⟩
    have D3t : D3 ≠ t := fun q => by rw [q, t8] at hD3; cases hD3
    have kt : ∀ x ∈ rs3, x ≠ t := fun x hx q => by rw [q] at hx; have := (fr9 t hx).1; rw [t8] at this; cases this
    have d12 : D1 ≠ D2 := fun q => by rw [← q, l5] at hD2; cases hD2
    have d13 : D1 ≠ D3 := fun q => by rw [← q, l8] at hD3; cases hD3
    have d23 : D2 ≠ D3 := fun q => by rw [← q, p8] at hD3; cases hD3
    refine hk _ t ⟨o1.dx, D1, D2, D3, rs1, rs2, rs3⟩ ⟨⟨upd_same.trans rfl, ?_, ?_, ?_, ?_, ?_, ?_, nd4, nd6, nd9, d12, d13, d23, fun k hk => ⟨fun q => ?_, fun q => ?_, (fr9 k hk).2⟩⟩, same_upd (s8.trans s9) nt, fun x hx => ?_⟩
    · exact keep_upd _ _ (s9 _ _ l8) D1t
    · exact keep_upd _ _ (s9 _ _ p8) D2t
    · exact keep_upd _ _ l9 D3t
    · exact al8.keep fun x hx v ⟨d, e⟩ => ⟨d, keep_upd _ _ (s9 _ _ e) fun q => by rw [q] at hx; have := (fr4 t hx).1; rw [t3] at this; cases this⟩
    · exact ap8.keep fun x hx v ⟨d, e⟩ => ⟨d, keep_upd _ _ (s9 _ _ e) fun q => by rw [q] at hx; have := (fr6 t hx).1; rw [t5] at this; cases this⟩
    · exact al9.keep fun x hx v e => keep_upd _ _ e (kt x hx)
    · have := (fr9 k hk).1
      rw [q, l8] at this
      cases this
    · have := (fr9 k hk).1
      rw [q, p8] at this
      cases this
    · unfold adr at hx
      rcases List.mem_cons.mp hx with rfl | hx
      · exact nt
      rcases List.mem_cons.mp hx with rfl | hx
      · exact s3.free hD1
      rcases List.mem_cons.mp hx with rfl | hx
      · exact s5.free hD2
      rcases List.mem_cons.mp hx with rfl | hx
      · exact s8.free hD3
      rcases List.mem_append.mp hx with hx | hx
      · rcases List.mem_append.mp hx with hx | hx
        · exact s3.free (fr4 x hx).1
        · exact s5.free (fr6 x hx).1
      · exact s8.free (fr9 x hx).1
end
end Ms
set_option Elab.async false
set_option linter.all false
set_option maxRecDepth 100000
set_option maxHeartbeats 4000000
namespace Ms
open PySem PySem.Spec PyProof.Rows L2
section
variable {P : Program} {w : World} {K : PySem.W.Frag} {mg : Str → Option Value} {base : Heap} {C : Ad} {f f1 f2 f3 : Addr} {fd fd1 fd2 fd3 : FuncData}
theorem map_vN (l : List Nat) : (l.map fun (n : Nat) => (n : Int)).map V.int = l.map vN := by rw [List.map_map]; rfl
/-! ### the levels of those below -/
def spLevs (C : Ad) : Sp := fun vs H Q _ => ∃ (a : Addr) (s : Shf), vs = [.ref a] ∧ Sh C H a s ∧ ∀ H' p, Same H H' → H' p = some (.lst ((bls s).map vN)) → Q (.ref p) H'
theorem sc_levels : FnScope ["shaft", "person"] ["shaft"] (defScope t_levels_of_those_below) := ⟨rfl, rfl, rfl, by decide +kernel, rfl, by decide +kernel, by decide +kernel⟩
theorem ints_fall {l : List Nat} {ns : List Int} (p : ns.Perm (l.map fun (n : Nat) => (n : Int))) (h : ns.Pairwise (fun x y => x ≥ y)) : ns = (Km413.falling l).map fun (n : Nat) => (n : Int) := by
  refine sorted_unique (le := fun (x y : Int) => x ≥ y) (fun a b h1 h2 => Int.le_antisymm h2 h1) (p.trans ?_) h ?_
  · exact ((falling_perm l).map _).symm
  · rw [List.pairwise_map]
    exact (falling_sorted l).imp fun {a b} q => by show (b : Int) ≤ (a : Int); omega
theorem ok_levels (T : Txt K mg C) (D : Df K mg "levels_of_those_below" t_levels_of_those_below ["shaft"] f fd) (G : Kn P w K mg base 1 "is_below" ["person"] (spIsBelow C) f1 fd1) :
    Kn P w K mg base 2 "levels_of_those_below" ["shaft"] (spLevs C) f fd := by
  refine D.kn (D.fn.ok sc_levels (fun vs H Q E h => ?_) (fun cdv A outer s H vs Q E hr h => ?_))
  · obtain ⟨a, s, rfl, _⟩ := h
    rfl
  · obtain ⟨a, s, rfl, ⟨g, o, S⟩, hk⟩ := h
    refine ⟨_, pss_one (ps_ret (pe_sortedR (by rfl) T.bSorted (pa_cons (pe_lc (own := [("person", 1)]) (te := tFld K (tVar 1) "place") rfl sc_levels.nd (pi_list (pe_fld (pv 0) rfl)) (blkOk_by rfl)
      (fun _ _ _ _ _ => pg_name (i := 1) sc_levels.nd rfl (Or.inl rfl)) (fun _ _ _ _ _ => pts_one (pt_val (pe_fn G hr (pa_cons (pv 1) pa_nil)))) (fun _ _ _ _ _ => pe_fld (pv 1) rfl)) pa_nil))), ?_⟩
    refine ⟨_, rfl, a, C.S, o.dx, _, _, rfl, S.me, T.cS, T.nPersons, rfl, o.pa, rfl, ⟨_, SqL.of S.pa⟩, fun Dd hD => ?_⟩
    refine lc_fm (K := K) (xs := o.ps.map V.ref) s.persons (fun x => Km413.levelIn x != 0) (fun x => vN (pl x)) (SqL.of S.pa) (by rw [List.length_map, S.ps.len]) (lt_line (Nat.le_trans g.ps (by decide))) hD (fun x => rfl) ?_ ?_ ?_
    · intro j x y H1 k1 hx hy hs h3
      rw [List.getElem?_map] at hx
      obtain ⟨p, hp, rfl⟩ := Option.map_eq_some_iff.mp hx
      obtain ⟨dx, he⟩ := S.ps.at_ j _ _ hp hy
      exact ⟨_, rfl, p, y, rfl, ⟨dx, hs _ _ he⟩, g.wh5 y (List.mem_of_getElem? hy), _, rfl, h3 _ (Same.refl _)⟩
    · intro j x y H1 k1 hx hy _ hs h4
      rw [List.getElem?_map] at hx
      obtain ⟨p, hp, rfl⟩ := Option.map_eq_some_iff.mp hx
      obtain ⟨dx, he⟩ := S.ps.at_ j _ _ hp hy
      exact ⟨_, rfl, p, C.P, dx, _, _, rfl, hs _ _ he, T.cP, T.nPlace, rfl, h4 _ (Same.refl _)⟩
    · intro H1 hs hd
      have e : (s.persons.filter fun x => Km413.levelIn x != 0).map (fun x => vN (pl x)) = ((bl s).map fun (n : Nat) => (n : Int)).map V.int := by
        rw [map_vN]
        unfold bl
        rw [List.map_map]
        refine List.map_congr_left fun x hx => ?_
        have : Km413.levelIn x ≠ 0 := by simpa using (List.mem_filter.mp hx).2
        show vN (pl x) = vN (Km413.levelIn x)
        rw [pl_level x this]
      rw [e] at hd
      refine ⟨Dd, _, rfl, SqL.of hd, ?_, fun ns' p hp hs' hn => ?_⟩
      · rw [List.length_map]
        have h1 : (bl s).length ≤ 24 := by
          have := bls_len g
          unfold bls at this
          rw [falling_length] at this
          exact this
        omega
      · rw [ints_fall hp hs']
        refine hk _ p (hs.trans (Same.upd_new hn)) ?_
        rw [upd_same, map_vN]
        rfl
/-! ### whom the cage takes -/
def spTaken (C : Ad) : Sp := fun vs H Q _ => ∃ (a : Addr) (s : Shf), vs = [.ref a] ∧ Sh C H a s ∧ ∀ H' p, Same H H' → H' p = some (.lst ((takenL s).map vN)) → Q (.ref p) H'
theorem sc_taken : FnScope ["shaft", "reached", "place"] ["shaft"] (defScope t_taken_along) := ⟨rfl, rfl, rfl, by decide +kernel, rfl, by decide +kernel, by decide +kernel⟩
theorem dec_le (a b : Nat) : decide ((a : Int) ≤ (b : Int)) = decide (a ≤ b) := by
  by_cases h : a ≤ b
  · rw [decide_eq_true h, decide_eq_true (by omega)]
  · rw [decide_eq_false h, decide_eq_false (by omega)]
theorem dec_lt (a b : Nat) : decide ((a : Int) < (b : Int)) = decide (a < b) := by
  by_cases h : a < b
  · rw [decide_eq_true h, decide_eq_true (by omega)]
  · rw [decide_eq_false h, decide_eq_false (by omega)]
theorem cut_take (xs : List V) (n : Nat) : cutV xs none (some (n : Int)) = xs.take n := by
  unfold cutV
  rw [HT.sIx_none, HT.sIx_nat, List.drop_zero, Nat.sub_zero]
  by_cases h : n ≤ xs.length
  · rw [Nat.min_eq_left h]
  · rw [Nat.min_eq_right (by omega), List.take_length, List.take_of_length_le (by omega)]
theorem cut_drop (xs : List V) (n : Nat) : cutV xs (some (n : Int)) none = xs.drop n := by
  unfold cutV
  rw [HT.sIx_none, HT.sIx_nat]
  by_cases h : n ≤ xs.length
  · rw [Nat.min_eq_left h, List.take_of_length_le (by rw [List.length_drop]; exact Nat.le_refl _)]
  · rw [Nat.min_eq_right (by omega), List.drop_length, List.drop_eq_nil_of_le (by omega), List.take_nil]
theorem cut_mid (xs : List V) (i n : Nat) : cutV xs (some (i : Int)) (some ((i + n : Nat) : Int)) = (xs.drop i).take n := by
  unfold cutV
  rw [HT.sIx_nat, HT.sIx_nat]
  by_cases h : i ≤ xs.length
  · rw [Nat.min_eq_left h]
    by_cases h2 : i + n ≤ xs.length
    · rw [Nat.min_eq_left h2, Nat.add_sub_cancel_left]
    · rw [Nat.min_eq_right (by omega), List.take_of_length_le (by rw [List.length_drop]; exact Nat.le_refl _), List.take_of_length_le (by rw [List.length_drop]; omega)]
  · rw [Nat.min_eq_right (show xs.length ≤ i by omega), List.drop_length, List.drop_eq_nil_of_le (by omega), List.take_nil, List.take_nil]
theorem ok_taken (T : Txt K mg C) (D : Df K mg "taken_along" t_taken_along ["shaft"] f fd) (G : Kn P w K mg base 2 "levels_of_those_below" ["shaft"] (spLevs C) f1 fd1) (GC : Kn P w K mg base 2 "count_at" ["shaft", "place"] (spCount C) f2 fd2) :
    Kn P w K mg base 3 "taken_along" ["shaft"] (spTaken C) f fd := by
  refine D.kn (D.fn.ok sc_taken (fun vs H Q E h => ?_) (fun cdv A outer s H vs Q E hr h => ?_))
  · obtain ⟨a, s, rfl, _⟩ := h
    rfl
  · obtain ⟨a, s, rfl, Sx, hk⟩ := h
    refine ⟨_, pss_cons (ps_setLc (i := 1) (own := [("place", 2)]) (tt := tTest (tOp (rI0 fun i j => .bl (decide (i ≤ j))) (tVar 2) (tFld K (tVar 0) "cage"))) rfl sc_taken.nd rfl rfl (sw_true rfl rfl rfl (by decide +kernel)) (pi_list (pe_fn G hr (pa_cons (pv 0) pa_nil))) (blkOk_by rfl)
      (fun _ _ _ _ _ => pg_name (i := 2) sc_taken.nd rfl (Or.inl rfl)) (fun _ _ _ _ _ => pts_one (pt_cmpR op_le (pv 2) (pe_fld (pv 0) rfl) (nomark _))) (fun _ _ _ _ _ => pv 2))
      (pss_one (ps_ret (pe_slice sl_list (pv 1) po_none (po_some (pe_op op_sub (pe_fld (pv 0) rfl) (pe_fn GC hr (pa_cons (pv 0) (pa_cons (pe_cst T.kIN_CAGE rfl) pa_nil)))))))), ?_⟩
    have g := Sx.good
    refine ⟨_, rfl, a, s, rfl, Sx, fun H1 q s1 h1 => ⟨q, rfl, ⟨_, SqL.of h1⟩, fun Dd hD => ?_⟩⟩
    obtain ⟨o, S1⟩ := (Sx.same s1).at_
    refine lc_fm (K := K) (xs := (bls s).map vN) (bls s) (fun l => decide (l ≤ s.at_)) vN (SqL.of h1) (by rw [List.length_map]) (lt_line (Nat.le_trans (bls_len g) (by decide))) hD (fun x => rfl) ?_ ?_ ?_
    · intro j x y H2 k1 hx hy hs h3
      rw [List.getElem?_map, hy] at hx
      cases hx
      refine ⟨_, rfl, _, rfl, a, C.S, o.dx, _, _, rfl, hs _ _ S1.me, T.cS, T.nCage, rfl, _, _, rfl, rfl, _, rfl, ?_⟩
      rw [dec_le]
      exact h3 _ (Same.refl _)
    · intro j x y H2 k1 hx hy _ hs h4
      rw [List.getElem?_map, hy] at hx
      cases hx
      exact ⟨_, rfl, h4 _ (Same.refl _)⟩
    · intro H2 s2 hd
      have S2 := S1.same s2
      refine ⟨_, rfl, _, rfl, a, C.S, o.dx, _, _, rfl, S2.me, T.cS, T.nRoom, rfl, _, rfl, a, s, 9, rfl, Sx.same (s1.trans s2), fun H3 s3 => ?_⟩
      refine ⟨_, _, rfl, rfl, _, rfl, Dd, _, rfl, SqL.of (s3 _ _ hd), fun p hp => ?_⟩
      have e : ((s.room : Nat) : Int) - ((cnt s 9 : Nat) : Int) = ((s.room - s.aboard.length : Nat) : Int) := by
        rw [cnt_cage g]
        have := g.aboard
        omega
      refine hk _ p (((s1.trans s2).trans s3).trans (Same.upd_new hp)) ?_
      rw [upd_same, e, cut_take, ← List.map_take]
      rfl
/-! ### who stays, in groups -/
def spGroups (C : Ad) : Sp := fun vs H Q _ => ∃ (a : Addr) (s : Shf), vs = [.ref a] ∧ Sh C H a s ∧ ∀ H' p qs, Same H H' → H' p = some (.lst (qs.map V.ref)) → Al (fun q (c : List Nat) => H' q = some (.lst (c.map vN))) qs (grp s) → Q (.ref p) H'
theorem sc_groups : FnScope ["shaft", "below", "deeper", "staying", "place", "first"] ["shaft"] (defScope t_groups_to_fetch) := ⟨rfl, rfl, rfl, by decide +kernel, rfl, by decide +kernel, by decide +kernel⟩
theorem rg_all : ∀ r : Nat, r < 9 → ∀ l : Nat, l < 25 → 1 ≤ r → Builtin.Range.small 0 (l : Int) (r : Int) = true ∧ Builtin.Range.rangeSize 0 (l : Int) (r : Int) = (((l + r - 1) / r : Nat) : Int) := by decide +kernel
theorem rgC_of {r l : Nat} (h1 : 1 ≤ r) (h8 : r ≤ 8) (hl : l ≤ 24) : RgC 0 (l : Int) (r : Int) ((l + r - 1) / r) := by
  obtain ⟨h, h2⟩ := rg_all r (by omega) l (by omega) h1
  exact ⟨by omega, by omega, h, h2⟩
theorem cuts_len (n : Nat) (l : List Nat) : (cuts n l).length = (l.length + n - 1) / n := by
  unfold cuts
  rw [List.length_map, List.length_range]
theorem ok_groups (T : Txt K mg C) (D : Df K mg "groups_to_fetch" t_groups_to_fetch ["shaft"] f fd) (G : Kn P w K mg base 2 "levels_of_those_below" ["shaft"] (spLevs C) f1 fd1) (GT : Kn P w K mg base 3 "taken_along" ["shaft"] (spTaken C) f2 fd2) :
    Kn P w K mg base 4 "groups_to_fetch" ["shaft"] (spGroups C) f fd := by
  refine D.kn (D.fn.ok sc_groups (fun vs H Q E h => ?_) (fun cdv A outer s H vs Q E hr h => ?_))
  · obtain ⟨a, s, rfl, _⟩ := h
    rfl
  · obtain ⟨a, s, rfl, Sx, hk⟩ := h
    refine ⟨_, pss_cons (ps_set (i := 1) sc_groups.nd rfl (Or.inl rfl) (pe_fn G hr (pa_cons (pv 0) pa_nil)))
      (pss_cons (ps_setLc (i := 2) (own := [("place", 4)]) (tt := tTest (tOp (rI0 fun i j => .bl (decide (j < i))) (tVar 4) (tFld K (tVar 0) "cage"))) rfl sc_groups.nd rfl rfl (sw_true rfl rfl rfl (by decide +kernel)) (pi_list (pv 1)) (blkOk_by rfl)
        (fun _ _ _ _ _ => pg_name (i := 4) sc_groups.nd rfl (Or.inl rfl)) (fun _ _ _ _ _ => pts_one (pt_cmpR op_gt (pv 4) (pe_fld (pv 0) rfl) (nomark _))) (fun _ _ _ _ _ => pv 4))
      (pss_cons (ps_set (i := 3) sc_groups.nd rfl (Or.inr rfl) (pe_op op_cat (pv 2) (pe_slice sl_list (pv 1) (po_some (pe_op op_add (pe_callB call_len_seq (by rfl) T.bLen bootLen (pa_cons (pv 2) pa_nil))
        (pe_callB call_len_seq (by rfl) T.bLen bootLen (pa_cons (pe_fn GT hr (pa_cons (pv 0) pa_nil)) pa_nil)))) po_none)))
      (pss_one (ps_ret (pe_lc (own := [("first", 5)]) (te := tSl (rSlL K) (tVar 3) (tPart (tVar 5)) (tPart (tOp (rI0 fun i j => .int (i + j)) (tVar 5) (tFld K (tVar 0) "room")))) rfl sc_groups.nd (pi_range3 (by rfl) T.bRange (pa_cons pe_int (pa_cons (pe_callB call_len_seq (by rfl) T.bLen bootLen (pa_cons (pv 3) pa_nil)) (pa_cons (pe_fld (pv 0) rfl) pa_nil))))
        (blkOk_by rfl) (fun _ _ _ _ _ => pg_name (i := 5) sc_groups.nd rfl (Or.inl rfl)) (fun _ _ _ _ _ => pts_nil)
        (fun _ _ _ _ _ => pe_slice sl_list (pv 3) (po_some (pv 5)) (po_some (pe_op op_add (pv 5) (pe_fld (pv 0) rfl))))))))), ?_⟩
    have g := Sx.good
    refine ⟨_, rfl, a, s, rfl, Sx, fun H1 b s1 h1 => ?_⟩
    obtain ⟨o, S1⟩ := (Sx.same s1).at_
    refine ⟨_, rfl, b, rfl, ⟨_, SqL.of h1⟩, fun d hD => ?_⟩
    refine lc_fm (K := K) (xs := (bls s).map vN) (bls s) (fun l => decide (s.at_ < l)) vN (SqL.of h1) (by rw [List.length_map]) (lt_line (Nat.le_trans (bls_len g) (by decide))) hD (fun x => rfl) ?_ ?_ ?_
    · intro j x y H2 k1 hx hy hs h3
      rw [List.getElem?_map, hy] at hx
      cases hx
      refine ⟨_, rfl, _, rfl, a, C.S, o.dx, _, _, rfl, hs _ _ S1.me, T.cS, T.nCage, rfl, _, _, rfl, rfl, _, rfl, ?_⟩
      rw [dec_lt]
      exact h3 _ (Same.refl _)
    · intro j x y H2 k1 hx hy _ hs h4
      rw [List.getElem?_map, hy] at hx
      cases hx
      exact ⟨_, rfl, h4 _ (Same.refl _)⟩
    intro H2 s2 hd
    have hd : H2 d = some (.lst ((deeper s).map vN)) := hd
    refine ⟨_, rfl, _, rfl, _, rfl, d, _, rfl, .inl (SqL.of hd), _, rfl, a, s, rfl, Sx.same (s1.trans s2), fun H3 t s3 ht => ?_⟩
    refine ⟨t, _, rfl, .inl (SqL.of ht), _, _, rfl, rfl, _, rfl, b, _, rfl, SqL.of (s3 _ _ (s2 _ _ h1)), fun r hr' => ?_⟩
    have e1 : (((List.map vN (deeper s)).length : Nat) : Int) + (((List.map vN (takenL s)).length : Nat) : Int) = (((deeper s).length + (takenL s).length : Nat) : Int) := by
      rw [List.length_map, List.length_map, Int.natCast_add]
    rw [e1, cut_drop, ← List.map_drop]
    have dr : d ≠ r := fun q => by rw [← q, s3 _ _ hd] at hr'; cases hr'
    have lenb := bls_len g
    have lend : (deeper s).length ≤ (bls s).length := List.length_filter_le _ _
    refine ⟨d, r, _, _, rfl, rfl, (upd_ne dr).trans (s3 _ _ hd), upd_same, ?_, fun st hst => ?_⟩
    · rw [List.length_map, List.length_map, List.length_drop]
      exact Nat.le_of_lt (lt_line (by omega))
    rw [← List.map_append, ← left_cut]
    have s4 : Same H3 (upd (upd H3 r (.lst (((bls s).drop ((deeper s).length + (takenL s).length)).map vN))) st (.lst ((leftL s).map vN))) := (Same.upd_new hr').trans (Same.upd_new hst)
    generalize e4 : upd (upd H3 r _) st _ = H4 at s4 ⊢
    have st4 : H4 st = some (.lst ((leftL s).map vN)) := by rw [← e4]; exact upd_same
    clear e4
    have s04 : Same H H4 := ((s1.trans s2).trans s3).trans s4
    have S4 := S1.same ((s2.trans s3).trans s4)
    refine ⟨_, rfl, st, _, rfl, .inl (SqL.of st4), _, rfl, a, C.S, o.dx, _, _, rfl, S4.me, T.cS, T.nRoom, rfl, 0, _, _, ((leftL s).length + s.room - 1) / s.room, rfl, ?rg, fun De hDe => ?_⟩
    case rg =>
      rw [List.length_map]
      exact rgC_of g.r1 g.r8 (left_len g)
    refine lc_stepNew (grp s) (fun H r c => H r = some (.lst (c.map vN))) (fun H H' r y e h => e.trans h) (fun H r y h => ⟨_, h⟩) (by unfold grp; rw [cuts_len]) (lt_line ?_) hDe (fun x => rfl) ?_ ?_
    · unfold grp
      rw [cuts_len]
      have := left_len g
      have h8 := g.r8
      exact Nat.le_trans (Nat.div_le_self _ _) (by omega)
    · intro j y H5 k hy hs h4
      have e5 : (0 : Int) + ((j : Nat) : Int) * ((s.room : Nat) : Int) = ((s.room * j : Nat) : Int) := by rw [Int.zero_add, Int.natCast_mul, Int.mul_comm]
      have hj : j < ((leftL s).length + s.room - 1) / s.room := by
        have := (List.getElem?_eq_some_iff.mp hy).1
        unfold grp at this
        rw [cuts_len] at this
        exact this
      have hy2 : y = ((leftL s).drop (s.room * j)).take s.room := by
        unfold grp cuts at hy
        rw [List.getElem?_map, List.getElem?_range hj] at hy
        exact (Option.some.inj hy).symm
      rw [e5]
      refine ⟨_, rfl, _, rfl, _, rfl, _, rfl, _, rfl, a, C.S, o.dx, _, _, rfl, hs _ _ S4.me, T.cS, T.nRoom, rfl, _, _, rfl, rfl, _, rfl, st, _, rfl, SqL.of (hs _ _ st4), fun p hp => ?_⟩
      rw [← Int.natCast_add, cut_mid, ← List.map_drop, ← List.map_take, ← hy2]
      exact h4 _ p (Same.upd_new hp) hp upd_same
    · intro H5 rs s5 h5 al5
      exact hk H5 De rs (s04.trans s5) h5 al5
/-! ### what a group takes, what's needed, whether it's safe -/
def spWear (C : Ad) : Sp := fun vs H Q _ => ∃ (a q : Addr) (s : Shf) (c : List Nat), vs = [.ref a, .ref q] ∧ Sh C H a s ∧ H q = some (.lst (c.map vN)) ∧ c ∈ grp s ∧ Q (vN (fetch s c)) H
theorem sc_wear : FnScope ["shaft", "group"] ["shaft", "group"] (defScope t_wear_to_fetch) := ⟨rfl, rfl, rfl, by decide +kernel, rfl, by decide +kernel, by decide +kernel⟩
/-- the level at a place of all (above ground is 0) -/
theorem lev_at {H : Hp} {a : Addr} {s : Shf} {o : Ow} (S : ShAt C H a s o) {l : Nat} (hl : l ≤ s.levels.length) : ∃ x dx v, (o.ls.map V.ref)[l]? = some (V.ref x) ∧ o.ls[l]? = some x ∧ (v0 :: s.levels)[l]? = some v ∧ H x = some (.ins C.L dx (lvF v)) ∧ v.depth = s.depth l := by
  have hi : l < (v0 :: s.levels).length := by rw [List.length_cons]; omega
  obtain ⟨x, hx, dx, he⟩ := S.lv.get' (List.getElem?_eq_getElem hi)
  refine ⟨x, dx, _, by rw [List.getElem?_map, hx]; rfl, hx, List.getElem?_eq_getElem hi, he, ?_⟩
  cases l with
  | zero => rw [depth_zero]; rfl
  | succ l =>
    have hl' : l < s.levels.length := hl
    rw [depth_get (List.getElem?_eq_getElem hl')]
    rfl
theorem ok_wear (T : Txt K mg C) (D : Df K mg "wear_to_fetch" t_wear_to_fetch ["shaft", "group"] f fd) : Kn P w K mg base 1 "wear_to_fetch" ["shaft", "group"] (spWear C) f fd := by
  refine D.kn (D.fn.ok sc_wear (fun vs H Q E h => ?_) (fun cdv A outer s H vs Q E hr h => ?_))
  · obtain ⟨a, q, s, c, rfl, _⟩ := h
    rfl
  · obtain ⟨a, q, s, c, rfl, ⟨g, o, S⟩, hq, hc, hk⟩ := h
    obtain ⟨l, r, rfl, h1, hl, h8⟩ := grp_mem g hc
    obtain ⟨x, dx, v, e1, e2, e3, he, ed⟩ := lev_at S hl
    refine ⟨_, pss_one (ps_ret (pe_op op_mul (pe_fld (pe_ix ix_list (pe_fld (pv 0) rfl) (pe_ix ix_list (pv 1) pe_int (fun _ _ => rfl)) (fun _ _ => rfl)) rfl)
      (pe_op op_add (pe_op op_mul pe_int (pe_cst T.kCAGE_WEIGHT rfl)) (pe_op op_mul (pe_cst T.kPERSON_WEIGHT rfl) (pe_callB call_len_seq (by rfl) T.bLen bootLen (pa_cons (pv 1) pa_nil)))))), ?_⟩
    refine ⟨_, rfl, a, C.S, o.dx, _, _, rfl, S.me, T.cS, T.nLevels, rfl, _, rfl, q, _, 0, _, rfl, rfl, SqL.of hq, atI_nat (j := 0) rfl, o.la, _, _, _, rfl, rfl, SqL.of S.la, atI_nat e1, x, C.L, dx, _, _, rfl, he, T.cL, T.nDepth, rfl,
      _, _, rfl, rfl, .inl ⟨by decide, by decide⟩, _, rfl, q, _, rfl, .inl (SqL.of hq), _, _, rfl, rfl, .inl ⟨by decide, by decide⟩, _, _, rfl, rfl, _, _, rfl, rfl, .inl ⟨?_, ?_⟩, ?_⟩
    · omega
    · have := depth_max g l
      rw [← ed] at this
      omega
    · have e : ((v.depth : Nat) : Int) * (2 * 1000 + 80 * ((((l :: r).map vN).length : Nat) : Int)) = ((fetch s (l :: r) : Nat) : Int) := by
        unfold fetch
        rw [List.length_map, ed]
        show _ = ((s.depth l * (2 * 1000 + 80 * (l :: r).length) : Nat) : Int)
        rw [Int.natCast_mul, Int.natCast_add, Int.natCast_mul, Int.natCast_mul]
        rfl
      show Q (V.int (((v.depth : Nat) : Int) * (2 * 1000 + 80 * ((((l :: r).map vN).length : Nat) : Int)))) H
      rw [e]
      exact hk
def spNeeded (C : Ad) : Sp := fun vs H Q _ => ∃ (a : Addr) (s : Shf), vs = [.ref a] ∧ Sh C H a s ∧ ∀ H', Same H H' → Q (vN s.need) H'
theorem sc_needed : FnScope ["shaft", "load", "fetching", "group"] ["shaft"] (defScope t_needed) := ⟨rfl, rfl, rfl, by decide +kernel, rfl, by decide +kernel, by decide +kernel⟩
theorem ok_needed (T : Txt K mg C) (D : Df K mg "needed" t_needed ["shaft"] f fd) (GR : Kn P w K mg base 3 "on_the_rope" ["shaft"] (spOnRope C) f1 fd1) (GT : Kn P w K mg base 3 "taken_along" ["shaft"] (spTaken C) f2 fd2)
    (GG : Kn P w K mg base 4 "groups_to_fetch" ["shaft"] (spGroups C) f3 fd3) {f4 : Addr} {fd4 : FuncData} (GW : Kn P w K mg base 1 "wear_to_fetch" ["shaft", "group"] (spWear C) f4 fd4) : Kn P w K mg base 5 "needed" ["shaft"] (spNeeded C) f fd := by
  refine D.kn (D.fn.ok sc_needed (fun vs H Q E h => ?_) (fun cdv A outer s H vs Q E hr h => ?_))
  · obtain ⟨a, s, rfl, _⟩ := h
    rfl
  · obtain ⟨a, s, rfl, Sx, hk⟩ := h
    refine ⟨_, pss_cons (ps_set (i := 1) sc_needed.nd rfl (Or.inl rfl) (pe_op op_add (pe_fn GR hr (pa_cons (pv 0) pa_nil)) (pe_op op_mul (pe_cst T.kPERSON_WEIGHT rfl) (pe_callB call_len_seq (by rfl) T.bLen bootLen (pa_cons (pe_fn GT hr (pa_cons (pv 0) pa_nil)) pa_nil)))))
      (pss_cons (ps_set (i := 2) sc_needed.nd rfl (Or.inl rfl) (pe_callB (cr_sum rfl) (by rfl) T.bSum bootSum (pa_cons (pe_lc (own := [("group", 3)]) rfl sc_needed.nd (pi_list (pe_fn GG hr (pa_cons (pv 0) pa_nil))) (blkOk_by rfl)
        (fun _ _ _ _ _ => pg_name (i := 3) sc_needed.nd rfl (Or.inl rfl)) (fun _ _ _ _ _ => pts_nil) (fun _ _ _ _ _ => pe_fn GW hr (pa_cons (pv 0) (pa_cons (pv 3) pa_nil)))) pa_nil)))
      (pss_one (ps_ret (pe_op op_add (pe_op op_mul (pe_fld (pe_ix ix_list (pe_fld (pv 0) rfl) (pe_fld (pv 0) rfl) (fun _ _ => rfl)) rfl) (pv 1)) (pv 2))))), ?_⟩
    have g := Sx.good
    refine ⟨_, rfl, a, s, rfl, Sx, fun H1 s1 => ⟨_, rfl, a, s, rfl, Sx.same s1, fun H2 t s2 ht => ?_⟩⟩
    refine ⟨t, _, rfl, .inl (SqL.of ht), _, _, rfl, rfl, .inl ⟨by decide, by decide⟩, _, _, rfl, rfl, ?_⟩
    refine ⟨_, rfl, a, s, rfl, Sx.same (s1.trans s2), fun H3 q qs s3 hq al => ⟨q, rfl, ⟨_, SqL.of hq⟩, fun Dd hD => ?_⟩⟩
    have s03 : Same H H3 := (s1.trans s2).trans s3
    refine lc_fm (K := K) (xs := qs.map V.ref) (grp s) (fun _ => true) (fun c => vN (fetch s c)) (SqL.of hq) (by rw [List.length_map, al.len]) (lt_line ?_) hD (fun x => rfl) ?_ ?_ ?_
    · unfold grp
      rw [cuts_len]
      have := left_len g
      have h8 := g.r8
      exact Nat.le_trans (Nat.div_le_self _ _) (by omega)
    · intro j x y H4 k1 hx hy hs h3
      exact h3 _ (Same.refl _)
    · intro j x y H4 k1 hx hy _ hs h4
      rw [List.getElem?_map] at hx
      obtain ⟨p, hp, rfl⟩ := Option.map_eq_some_iff.mp hx
      exact ⟨_, rfl, _, rfl, a, p, s, y, rfl, Sx.same (s03.trans hs), hs _ _ (al.at_ j _ _ hp hy), List.mem_of_getElem? hy, h4 _ (Same.refl _)⟩
    intro H4 s4 hd
    have e1 : (((grp s).filter fun _ => true).map fun c => vN (fetch s c)) = (((grp s).map (fetch s)).map fun (n : Nat) => (n : Int)).map V.int := by
      rw [map_vN, List.filter_eq_self.mpr (fun _ _ => rfl), List.map_map]
      rfl
    rw [e1] at hd
    refine ⟨Dd, _, rfl, SqL.of hd, ?_⟩
    have s04 := s03.trans s4
    obtain ⟨o, S⟩ := (Sx.same s04).at_
    obtain ⟨x, dx, v, f1, f2, f3, he, ed⟩ := lev_at S g.at_
    refine ⟨_, rfl, a, C.S, o.dx, _, _, rfl, S.me, T.cS, T.nLevels, rfl, _, rfl, a, C.S, o.dx, _, _, rfl, S.me, T.cS, T.nCage, rfl, o.la, _, _, _, rfl, rfl, SqL.of S.la, atI_nat f1, x, C.L, dx, _, _, rfl, he, T.cL, T.nDepth, rfl,
      _, rfl, _, _, rfl, rfl, .inl ⟨?_, ?_⟩, _, rfl, _, _, rfl, rfl, ?_⟩
    · omega
    · have := depth_max g s.at_
      rw [← ed] at this
      omega
    · have e : ((v.depth : Nat) : Int) * (((s.load : Nat) : Int) + 80 * ((((takenL s).map vN).length : Nat) : Int)) + ((((grp s).map (fetch s)).map fun (n : Nat) => (n : Int)).sum) = ((s.need : Nat) : Int) := by
        rw [need_eq g, sum_int, List.length_map, ed, load_eq g]
        simp only [Int.natCast_add, Int.natCast_mul]
        rfl
      show Q (V.int (((v.depth : Nat) : Int) * (((s.load : Nat) : Int) + 80 * ((((takenL s).map vN).length : Nat) : Int)) + ((((grp s).map (fetch s)).map fun (n : Nat) => (n : Int)).sum))) H4
      rw [e]
      exact hk H4 s04
def spSafe (C : Ad) : Sp := fun vs H Q _ => ∃ (a : Addr) (s : Shf), vs = [.ref a] ∧ Sh C H a s ∧ ∀ H', Same H H' → Q (.bl s.safe) H'
theorem sc_is_safe : FnScope ["shaft"] ["shaft"] (defScope t_is_safe) := ⟨rfl, rfl, rfl, by decide +kernel, rfl, by decide +kernel, by decide +kernel⟩
theorem ok_is_safe (T : Txt K mg C) (D : Df K mg "is_safe" t_is_safe ["shaft"] f fd) (GN : Kn P w K mg base 5 "needed" ["shaft"] (spNeeded C) f1 fd1) : Kn P w K mg base 6 "is_safe" ["shaft"] (spSafe C) f fd := by
  refine D.kn (D.fn.ok sc_is_safe (fun vs H Q E h => ?_) (fun cdv A outer s H vs Q E hr h => ?_))
  · obtain ⟨a, s, rfl, _⟩ := h
    rfl
  · obtain ⟨a, s, rfl, Sx, hk⟩ := h
    obtain ⟨g, o, S⟩ := Sx
    refine ⟨_, pss_one (ps_ret (pe_cmpR op_le (pe_op op_add (pe_fld (pv 0) rfl) (pe_fn GN hr (pa_cons (pv 0) pa_nil))) (pe_fld (pv 0) rfl) (nomark _))), ?_⟩
    refine ⟨_, rfl, a, C.S, o.dx, _, _, rfl, S.me, T.cS, T.nWorn, rfl, _, rfl, a, s, rfl, ⟨g, o, S⟩, fun H1 s1 => ?_⟩
    refine ⟨_, _, rfl, rfl, _, rfl, a, C.S, o.dx, _, _, rfl, s1 _ _ S.me, T.cS, T.nRope, rfl, _, _, rfl, rfl, ?_⟩
    show Q (V.bl (decide (((s.worn : Nat) : Int) + ((s.need : Nat) : Int) ≤ ((s.rope : Nat) : Int)))) H1
    rw [← Int.natCast_add, dec_le]
    exact hk H1 s1
end
end Ms
set_option Elab.async false
set_option linter.all false
set_option maxRecDepth 100000
set_option maxHeartbeats 4000000
namespace Ms
open PySem PySem.Spec PyProof.Rows L2
theorem vInj {a b : Int} (h : V.int a = V.int b) : a = b := by injection h
theorem dT {c : Prop} [Decidable c] (h : decide c = true) : c := of_decide_eq_true h
theorem dF {c : Prop} [Decidable c] (h : ¬ decide c = true) : ¬ c := fun q => h (decide_eq_true q)
theorem nT {c : Prop} [Decidable c] (h : (!decide c) = true) : ¬ c := fun q => by rw [decide_eq_true q] at h; cases h
theorem nF {c : Prop} [Decidable c] (h : ¬ (!decide c) = true) : c := by
  by_cases q : c
  · exact q
  · exact absurd (by rw [decide_eq_false q]; rfl) h
/-- what is wanted behind a change -/
def After (C : Ad) (H0 : Hp) (a : Addr) (s : Shf) (c : Km413.Call) (Q : VK) : Prop := ∀ (H' : Hp) (r : Int), Same H0 H' → r = (chg s c).2.value → (0 ≤ r → ∃ o', Tr C H0 H' a (chg s c).1.now o') → Q (.int r) H'
section
variable {C : Ad} {H0 H' : Hp} {a : Addr} {s t : Shf} {c : Km413.Call} {Q : VK} {o' : Ow} {z : Int}
theorem After.no (h : After C H0 a s c Q) (e : (chg s c).2.value = z) (sm : Same H0 H') (hz : z < 0 := by decide) : Q (.int z) H' := h H' z sm e.symm fun q => absurd q (by omega)
theorem After.yes (h : After C H0 a s c Q) (e : (chg s c).2.value = z ∧ (chg s c).1.now = t) (R : Tr C H0 H' a t o') : Q (.int z) H' := h H' z R.sm e.1.symm fun _ => ⟨o', by rw [e.2]; exact R⟩
end
def spChg (C : Ad) (n : Nat) (c : List Nat → Km413.Call) : Sp := fun vs H Q _ => ∃ (H0 : Hp) (a : Addr) (s : Shf) (o : Ow) (ns : List Nat), vs = V.ref a :: ns.map vN ∧ ns.length = n ∧ Tr C H0 H a s o ∧ Good s ∧ After C H0 a s (c ns) Q
theorem len1 {ns : List Nat} (h : ns.length = 1) : ∃ x, ns = [x] := match ns, h with | [x], _ => ⟨x, rfl⟩
theorem len2 {ns : List Nat} (h : ns.length = 2) : ∃ x y, ns = [x, y] := match ns, h with | [x, y], _ => ⟨x, y, rfl⟩
theorem len3 {ns : List Nat} (h : ns.length = 3) : ∃ x y z, ns = [x, y, z] := match ns, h with | [x, y, z], _ => ⟨x, y, z, rfl⟩
theorem len0 {ns : List Nat} (h : ns.length = 0) : ns = [] := List.length_eq_zero_iff.mp h
section
variable {P : Program} {w : World} {K : PySem.W.Frag} {mg : Str → Option Value} {base : Heap} {C : Ad} {f f1 f2 f3 : Addr} {fd fd1 fd2 fd3 : FuncData}
theorem Tr.sh_ {H0 H : Hp} {a : Addr} {s : Shf} {o : Ow} (R : Tr C H0 H a s o) (g : Good s) : Sh C H a s := ⟨g, o, R.sh⟩
theorem per_at {H : Hp} {a : Addr} {s : Shf} {o : Ow} (S : ShAt C H a s o) {p : Nat} {x : Per} (h : s.persons[p]? = some x) : ∃ y dx, (o.ps.map V.ref)[p]? = some (V.ref y) ∧ o.ps[p]? = some y ∧ H y = some (.ins C.P dx (psF x)) := by
  obtain ⟨y, hy, dx, he⟩ := S.ps.get' h
  exact ⟨y, dx, by rw [List.getElem?_map, hy]; rfl, hy, he⟩
/-! ### is_level -/
def spIsLevel (C : Ad) : Sp := fun vs H Q _ => ∃ (a : Addr) (s : Shf) (n : Nat), vs = [.ref a, vN n] ∧ Sh C H a s ∧ Q (.bl (decide (1 ≤ n ∧ n ≤ s.levels.length))) H
theorem sc_is_level : FnScope ["shaft", "number"] ["shaft", "number"] (defScope t_is_level) := ⟨rfl, rfl, rfl, by decide +kernel, rfl, by decide +kernel, by decide +kernel⟩
theorem ok_is_level (T : Txt K mg C) (D : Df K mg "is_level" t_is_level ["shaft", "number"] f fd) : Kn P w K mg base 1 "is_level" ["shaft", "number"] (spIsLevel C) f fd := by
  refine D.kn (D.fn.ok sc_is_level (fun vs H Q E h => ?_) (fun cdv A outer s H vs Q E hr h => ?_))
  · obtain ⟨a, s, n, rfl, _⟩ := h
    rfl
  · obtain ⟨a, s, n, rfl, ⟨g, o, S⟩, hk⟩ := h
    refine ⟨_, pss_one (ps_ret (pe_chain op_le op_lt pe_int (pv 1) (pe_callB call_len_seq (by rfl) T.bLen bootLen (pa_cons (pe_fld (pv 0) rfl) pa_nil)))), ?_⟩
    refine ⟨_, rfl, _, _, rfl, rfl, _, rfl, ite2 (fun h => ?_) (fun h => ?_)⟩
    · have h := dT h
      refine ⟨_, rfl, a, C.S, o.dx, _, _, rfl, S.me, T.cS, T.nLevels, rfl, o.la, _, rfl, .inl (SqL.of S.la), _, _, rfl, rfl, ?_⟩
      have e : decide ((n : Int) < (((o.ls.map V.ref).length : Nat) : Int)) = decide (1 ≤ n ∧ n ≤ s.levels.length) := by
        have hl := S.lv.len
        rw [List.length_cons] at hl
        rw [List.length_map, hl]
        by_cases q : n ≤ s.levels.length
        · rw [decide_eq_true (by omega), decide_eq_true (by omega)]
        · rw [decide_eq_false (by omega), decide_eq_false (by omega)]
      show Q (V.bl (decide ((n : Int) < (((o.ls.map V.ref).length : Nat) : Int)))) H
      rw [e]
      exact hk
    · have h := dF h
      rw [decide_eq_false (by omega)] at hk
      exact hk
/-! ### sh_level -/
theorem sc_sh_level : FnScope ["shaft", "depth", "rate", "clears"] ["shaft", "depth", "rate", "clears"] (defScope t_sh_level) := ⟨rfl, rfl, rfl, by decide +kernel, rfl, by decide +kernel, by decide +kernel⟩
theorem atI_last {α : Type} {xs : List α} {v : α} {n : Nat} (hl : xs.length = n + 1) (h : xs[n]? = some v) : atI xs (-1) = some v := by
  unfold atI ixN
  rw [if_neg (by decide), if_pos (by omega), hl]
  have e : ((-1 : Int) + ((n + 1 : Nat) : Int)).toNat = n := by omega
  rw [e]
  exact h
theorem last_depth {s : Shf} {v : Lev} (h : (v0 :: s.levels)[s.levels.length]? = some v) (d : Nat) (hd : 1 ≤ d) : (v.depth < d ↔ ∀ u, s.levels.getLast? = some u → u.depth < d) := by
  cases q : s.levels.getLast? with
  | none =>
    have e : s.levels = [] := List.getLast?_eq_none_iff.mp q
    rw [e] at h
    have ev : v0 = v := by simpa using h
    subst ev
    constructor
    · intro _ u hu; cases hu
    · intro _; show 0 < d; omega
  | some u =>
    obtain ⟨ys, hy⟩ := List.getLast?_eq_some_iff.mp q
    have ev : v = u := by
      rw [hy, ← List.cons_append, List.length_append] at h
      have e2 : ys.length + [u].length = (v0 :: ys).length := by simp
      rw [e2, List.getElem?_concat_length] at h
      exact (Option.some.inj h).symm
    subst ev
    constructor
    · intro h1 u hu; cases hu; exact h1
    · intro h1; exact h1 v rfl
theorem ok_sh_level (T : Txt K mg C) (D : Df K mg "sh_level" t_sh_level ["shaft", "depth", "rate", "clears"] f fd) (G : Kc P w K mg base 1 "Level" ["self", "depth", "rate", "clears"] (spLevel C) C.L f1 fd1) :
    Kn P w K mg base 3 "sh_level" ["shaft", "depth", "rate", "clears"] (spChg C 3 fun ns => .level (ns.getD 0 0) (ns.getD 1 0) (ns.getD 2 0)) f fd := by
  refine D.kn (D.fn.ok sc_sh_level (fun vs H Q E h => ?_) (fun cdv A outer s H vs Q E hr h => ?_))
  · obtain ⟨H0, a, s, o, ns, rfl, hl, _⟩ := h
    simp [hl]
  · obtain ⟨H0, a, s, o, ns, rfl, hl, R, g, hk⟩ := h
    obtain ⟨d, r, c, rfl⟩ := len3 hl
    have hk : After C H0 a s (.level d r c) Q := hk
    have S := R.sh
    have hlen := S.lv.len
    rw [List.length_cons] at hlen
    refine ⟨_, pss_cons (ps_if (PW.pt (pw_or (pt_cmpR op_lt (pv 1) pe_int (nomark _)) (pw_or (pt_cmpR op_gt (pv 1) (pe_cst T.kDEEPEST rfl) (nomark _)) (pw_or (pt_cmpR op_gt (pv 2) (pe_cst T.kMOST_GAS rfl) (nomark _)) (pw_or1 (pt_cmpR op_gt (pv 3) (pe_cst T.kMOST_CLEARED rfl) (nomark _)))))))
        (pss_one (ps_ret (pe_cst T.kWRONG rfl))) pss_nil)
      (pss_cons (ps_if (pt_cmpR op_le (pv 1) (pe_fld (pe_ix ix_list (pe_fld (pv 0) rfl) (pe_un un_neg pe_int) (fun _ _ => rfl)) rfl) (nomark _)) (pss_one (ps_ret (pe_cst T.kWRONG rfl))) pss_nil)
      (pss_cons (ps_if (pt_cmpR op_gt (pe_callB call_len_seq (by rfl) T.bLen bootLen (pa_cons (pe_fld (pv 0) rfl) pa_nil)) (pe_cst T.kMOST_LEVELS rfl) (nomark _)) (pss_one (ps_ret (pe_cst T.kFULL rfl))) pss_nil)
      (pss_cons (ps_expr (pe_bm PySem.F.plainAttrs_list PySem.F.slot_list_append PySem.F.type_list_append mt_append (pe_fld (pv 0) rfl) (pa_cons (pe_new G hr (pa_cons (pv 1) (pa_cons (pv 2) (pa_cons (pv 3) pa_nil)))) pa_nil)))
      (pss_one (ps_ret (pe_op op_sub (pe_callB call_len_seq (by rfl) T.bLen bootLen (pa_cons (pe_fld (pv 0) rfl) pa_nil)) pe_int)))))), ?_⟩
    refine ⟨_, rfl, _, _, rfl, rfl, _, rfl, ite2 (fun h => iteT (hk.no (chg_level_bad (.inl ?_)) R.sm)) (fun h1 => ?_)⟩
    · have := dT h; omega
    refine ⟨_, rfl, _, _, rfl, rfl, _, rfl, ite2 (fun h => iteT (hk.no (chg_level_bad (.inr (.inl ?_))) R.sm)) (fun h2 => ?_)⟩
    · have := dT h; omega
    refine ⟨_, rfl, _, _, rfl, rfl, _, rfl, ite2 (fun h => iteT (hk.no (chg_level_bad (.inr (.inr (.inl ?_)))) R.sm)) (fun h3 => ?_)⟩
    · have := dT h; omega
    refine ⟨_, rfl, _, _, rfl, rfl, _, rfl, ite2 (fun h => hk.no (chg_level_bad (.inr (.inr (.inr (.inl ?_))))) R.sm) (fun h4 => ?_)⟩
    · have := dT h; omega
    have h1 := dF h1
    have h2 := dF h2
    have h3 := dF h3
    have h4 := dF h4
    obtain ⟨x, dx, v, e1, e2, e3, he, ed⟩ := lev_at S (Nat.le_refl s.levels.length)
    have hd := last_depth e3 d (by omega)
    refine ⟨_, rfl, _, rfl, a, C.S, o.dx, _, _, rfl, S.me, T.cS, T.nLevels, rfl, _, rfl, o.la, _, _, _, rfl, rfl, SqL.of S.la, atI_last (by rw [List.length_map, hlen]) e1, x, C.L, dx, _, _, rfl, he, T.cL, T.nDepth, rfl, _, _, rfl, rfl, _, rfl,
      ite2 (fun h => ?_) (fun h5 => ?_)⟩
    · have h := dT h
      refine hk.no (chg_level_bad (.inr (.inr (.inr (.inr ?_))))) R.sm
      apply Classical.byContradiction
      intro q
      have : v.depth < d := hd.mpr fun u hu => Nat.not_le.mp fun z => q ⟨u, hu, z⟩
      omega
    have h5 := dF h5
    have h5' := hd.mp (by omega)
    refine ⟨_, rfl, a, C.S, o.dx, _, _, rfl, S.me, T.cS, T.nLevels, rfl, o.la, _, rfl, .inl (SqL.of S.la), _, _, rfl, rfl, _, rfl, ite2 (fun h => ?_) (fun h6 => ?_)⟩
    · have h := dT h
      rw [List.length_map, hlen] at h
      exact hk.no (chg_level_full (by omega) (by omega) (by omega) (by omega) h5' (by omega)) R.sm
    have h6 := dF h6
    rw [List.length_map, hlen] at h6
    refine ⟨_, rfl, a, C.S, o.dx, _, _, rfl, S.me, T.cS, T.nLevels, rfl, .inl ⟨rfl, _, SqL.of S.la⟩, _, rfl, _, rfl, _, rfl, ?_⟩
    intro y dy ny ndy _
    refine ⟨y, dy, d, r, c, rfl, upd_same, fun H1 hv k1 => ⟨rfl, ?_⟩⟩
    have s1 : Same H H1 := Same.made ny ndy k1
    have R1 := R.same s1
    have yl : y ∉ o.ls := fun q => by
      obtain ⟨u, hu⟩ := S.there (adr_ls (a := a) q)
      rw [ny] at hu
      cases hu
    refine ⟨o.la, _, _, rfl, rfl, R1.sh.la, ?_, ?_⟩
    · rw [List.length_map, hlen]
      exact lt_line (by omega)
    have R2 := R1.addL hv yl (R.sm.free ny)
    refine ⟨_, rfl, a, C.S, o.dx, _, _, rfl, R2.sh.me, T.cS, T.nLevels, rfl, o.la, _, rfl, .inl (SqL.of R2.sh.la), _, _, rfl, rfl, ?_⟩
    have e : ((((o.ls ++ [y]).map V.ref).length : Nat) : Int) - 1 = ((s.levels.length + 1 : Nat) : Int) := by
      rw [List.length_map, List.length_append, hlen]
      simp
    show Q (V.int (((((o.ls ++ [y]).map V.ref).length : Nat) : Int) - 1)) _
    rw [e]
    exact hk.yes (chg_level_ok (by omega) (by omega) (by omega) (by omega) h5' (by omega)) R2
/-! ### sh_hire -/
theorem sc_sh_hire : FnScope ["shaft"] ["shaft"] (defScope t_sh_hire) := ⟨rfl, rfl, rfl, by decide +kernel, rfl, by decide +kernel, by decide +kernel⟩
theorem ok_sh_hire (T : Txt K mg C) (D : Df K mg "sh_hire" t_sh_hire ["shaft"] f fd) (G : Kc P w K mg base 1 "Person" ["self", "place", "since"] (spPerson C) C.P f1 fd1) :
    Kn P w K mg base 3 "sh_hire" ["shaft"] (spChg C 0 fun _ => .hire) f fd := by
  refine D.kn (D.fn.ok sc_sh_hire (fun vs H Q E h => ?_) (fun cdv A outer s H vs Q E hr h => ?_))
  · obtain ⟨H0, a, s, o, ns, rfl, hl, _⟩ := h
    simp [hl]
  · obtain ⟨H0, a, s, o, ns, rfl, hl, R, g, hk⟩ := h
    obtain rfl := len0 hl
    have hk : After C H0 a s .hire Q := hk
    have S := R.sh
    have hlen := S.ps.len
    refine ⟨_, pss_cons (ps_if (pt_cmpR op_ge (pe_callB call_len_seq (by rfl) T.bLen bootLen (pa_cons (pe_fld (pv 0) rfl) pa_nil)) (pe_cst T.kMOST_PERSONS rfl) (nomark _)) (pss_one (ps_ret (pe_cst T.kFULL rfl))) pss_nil)
      (pss_cons (ps_expr (pe_bm PySem.F.plainAttrs_list PySem.F.slot_list_append PySem.F.type_list_append mt_append (pe_fld (pv 0) rfl) (pa_cons (pe_new G hr (pa_cons pe_int (pa_cons (pe_fld (pv 0) rfl) pa_nil))) pa_nil)))
      (pss_one (ps_ret (pe_op op_sub (pe_callB call_len_seq (by rfl) T.bLen bootLen (pa_cons (pe_fld (pv 0) rfl) pa_nil)) pe_int)))), ?_⟩
    refine ⟨_, rfl, a, C.S, o.dx, _, _, rfl, S.me, T.cS, T.nPersons, rfl, o.pa, _, rfl, .inl (SqL.of S.pa), _, _, rfl, rfl, _, rfl, ite2 (fun h => ?_) (fun h1 => ?_)⟩
    · have h := dT h
      rw [List.length_map, hlen] at h
      exact hk.no (chg_hire_full (by omega)) R.sm
    have h1 := dF h1
    rw [List.length_map, hlen] at h1
    refine ⟨_, rfl, a, C.S, o.dx, _, _, rfl, S.me, T.cS, T.nPersons, rfl, .inl ⟨rfl, _, SqL.of S.pa⟩, _, rfl, a, C.S, o.dx, _, _, rfl, S.me, T.cS, T.nMinute, rfl, ?_⟩
    intro y dy ny ndy _
    refine ⟨y, dy, 0, s.time, rfl, upd_same, fun H1 hv k1 => ⟨rfl, ?_⟩⟩
    have s1 : Same H H1 := Same.made ny ndy k1
    have R1 := R.same s1
    have yl : y ∉ o.ps := fun q => by
      obtain ⟨u, hu⟩ := S.there (adr_ps (a := a) q)
      rw [ny] at hu
      cases hu
    refine ⟨o.pa, _, _, rfl, rfl, R1.sh.pa, ?_, ?_⟩
    · rw [List.length_map, hlen]
      exact lt_line (by omega)
    have R2 := R1.addP (v := ⟨.at_ 0, s.time⟩) ⟨dy, hv⟩ yl (R.sm.free ny)
    refine ⟨_, rfl, a, C.S, o.dx, _, _, rfl, R2.sh.me, T.cS, T.nPersons, rfl, o.pa, _, rfl, .inl (SqL.of R2.sh.pa), _, _, rfl, rfl, ?_⟩
    have e : ((((o.ps ++ [y]).map V.ref).length : Nat) : Int) - 1 = ((s.persons.length : Nat) : Int) := by
      rw [List.length_map, List.length_append, hlen]
      simp
    show Q (V.int (((((o.ps ++ [y]).map V.ref).length : Nat) : Int) - 1)) _
    rw [e]
    exact hk.yes (chg_hire_ok (by omega)) R2
end
end Ms
set_option Elab.async false
set_option linter.all false
set_option maxRecDepth 100000
set_option maxHeartbeats 4000000
namespace Ms
open PySem PySem.Spec PyProof.Rows L2
section
variable {P : Program} {w : World} {K : PySem.W.Frag} {mg : Str → Option Value} {base : Heap} {C : Ad} {f f1 f2 f3 : Addr} {fd fd1 fd2 fd3 : FuncData}
theorem nth_none {α : Type} {l : List α} {n : Nat} (h : l.length ≤ n) : l[n]? = none := List.getElem?_eq_none_iff.mpr h
theorem nth_some {α : Type} {l : List α} {n : Nat} (h : n < l.length) : ∃ x, l[n]? = some x := ⟨_, List.getElem?_eq_getElem h⟩
/-! ### sh_board -/
theorem sc_sh_board : FnScope ["shaft", "number", "person"] ["shaft", "number"] (defScope t_sh_board) := ⟨rfl, rfl, rfl, by decide +kernel, rfl, by decide +kernel, by decide +kernel⟩
theorem puts_aboard {s : Shf} {p : Nat} {x : Per} {q : Km413.Place} {t : Nat} (h : s.persons[p]? = some x) : (s.puts p q t).aboard.length + (if x.place = .cage then 1 else 0) = s.aboard.length + (if q = .cage then 1 else 0) := by
  rw [aboard_len, aboard_len]
  have e := filter_set_len (fun x : Km413.Person => x.place == .cage) s.persons p x ⟨q, t⟩ h
  have e1 : ((x.place == Km413.Place.cage) = true) = (x.place = .cage) := by rw [beq_iff_eq]
  have e2 : ((q == Km413.Place.cage) = true) = (q = .cage) := by rw [beq_iff_eq]
  simp only [e1, e2] at e
  exact e
theorem ok_sh_board (T : Txt K mg C) (D : Df K mg "sh_board" t_sh_board ["shaft", "number"] f fd) (GC : Kn P w K mg base 2 "count_at" ["shaft", "place"] (spCount C) f1 fd1) :
    Kn P w K mg base 3 "sh_board" ["shaft", "number"] (spChg C 1 fun ns => .board (ns.getD 0 0)) f fd := by
  refine D.kn (D.fn.ok sc_sh_board (fun vs H Q E h => ?_) (fun cdv A outer s H vs Q E hr h => ?_))
  · obtain ⟨H0, a, s, o, ns, rfl, hl, _⟩ := h
    simp [hl]
  · obtain ⟨H0, a, s, o, ns, rfl, hl, R, g, hk⟩ := h
    obtain ⟨p, rfl⟩ := len1 hl
    have hk : After C H0 a s (.board p) Q := hk
    have S := R.sh
    refine ⟨_, pss_cons (ps_if (pt_cmpR op_ge (pv 1) (pe_callB call_len_seq (by rfl) T.bLen bootLen (pa_cons (pe_fld (pv 0) rfl) pa_nil)) (nomark _)) (pss_one (ps_ret (pe_cst T.kMISSING rfl))) pss_nil)
      (pss_cons (ps_set (i := 2) sc_sh_board.nd rfl (Or.inl rfl) (pe_ix ix_list (pe_fld (pv 0) rfl) (pv 1) (fun _ _ => rfl)))
      (pss_cons (ps_if (pt_cmpR op_eq (pe_fld (pv 2) rfl) (pe_cst T.kIN_CAGE rfl) (nomark _)) (pss_one (ps_ret (pe_cst T.kALREADY rfl))) pss_nil)
      (pss_cons (ps_if (pt_cmpR op_ne (pe_fld (pv 2) rfl) (pe_fld (pv 0) rfl) (nomark _)) (pss_one (ps_ret (pe_cst T.kHINDERED rfl))) pss_nil)
      (pss_cons (ps_if (pt_cmpR op_ge (pe_fn GC hr (pa_cons (pv 0) (pa_cons (pe_cst T.kIN_CAGE rfl) pa_nil))) (pe_fld (pv 0) rfl) (nomark _)) (pss_one (ps_ret (pe_cst T.kFULL rfl))) pss_nil)
      (pss_cons (ps_fld (pv 2) (pe_cst T.kIN_CAGE rfl) rfl)
      (pss_cons (ps_if (pt_cmpR op_eq (pe_fld (pv 0) rfl) pe_int (nomark _)) (pss_one (ps_fld (pv 2) (pe_fld (pv 0) rfl) rfl)) pss_nil)
      (pss_one (ps_ret (pe_fn GC hr (pa_cons (pv 0) (pa_cons (pe_cst T.kIN_CAGE rfl) pa_nil)))))))))))  , ?_⟩
    refine ⟨_, rfl, _, rfl, a, C.S, o.dx, _, _, rfl, S.me, T.cS, T.nPersons, rfl, o.pa, _, rfl, .inl (SqL.of S.pa), _, _, rfl, rfl, _, rfl, ite2 (fun h => ?_) (fun h1 => ?_)⟩
    · have h := dT h
      rw [List.length_map, S.ps.len] at h
      exact hk.no (chg_board_none (nth_none (by omega))) R.sm
    have h1 := dF h1
    rw [List.length_map, S.ps.len] at h1
    obtain ⟨x, hx⟩ := nth_some (l := s.persons) (n := p) (by omega)
    obtain ⟨y, dy, e1, e2, he⟩ := per_at S hx
    have hx5 := g.wh5 x (List.mem_of_getElem? hx)
    refine ⟨_, rfl, a, C.S, o.dx, _, _, rfl, S.me, T.cS, T.nPersons, rfl, _, rfl, o.pa, _, _, _, rfl, rfl, SqL.of S.pa, atI_nat e1, ?_⟩
    refine ⟨_, rfl, y, C.P, dy, _, _, rfl, he, T.cP, T.nPlace, rfl, rfl, _, rfl, ite2 (fun h => ?_) (fun h2 => ?_)⟩
    · have h := vInj (dT h)
      exact hk.no (chg_board_in hx ((pl_cage x hx5).mp (by omega))) R.sm
    have h2 : pl x ≠ 9 := fun q => dF h2 (congrArg V.int (by omega))
    have h2 : x.place ≠ .cage := fun q => h2 ((pl_cage x hx5).mpr q)
    refine ⟨_, rfl, y, C.P, dy, _, _, rfl, he, T.cP, T.nPlace, rfl, _, rfl, a, C.S, o.dx, _, _, rfl, S.me, T.cS, T.nCage, rfl, rfl, _, rfl, ite2 (fun h => ?_) (fun h3 => ?_)⟩
    · have h : pl x ≠ s.at_ := fun q => nT h (congrArg V.int (by omega))
      exact hk.no (chg_board_away hx h2 fun q => h ((pl_at x s.at_ hx5 (Nat.le_trans g.at_ g.lv)).mpr q)) R.sm
    have h3 := vInj (nF h3)
    have h3 : x.place = .at_ s.at_ := (pl_at x s.at_ hx5 (Nat.le_trans g.at_ g.lv)).mp (by omega)
    refine ⟨_, rfl, a, s, 9, rfl, R.sh_ g, fun H1 s1 => ?_⟩
    have R1 := R.same s1
    refine ⟨_, rfl, a, C.S, o.dx, _, _, rfl, R1.sh.me, T.cS, T.nRoom, rfl, _, _, rfl, rfl, _, rfl, ite2 (fun h => ?_) (fun h4 => ?_)⟩
    · have h := dT h
      rw [cnt_cage g] at h
      exact hk.no (chg_board_full hx h2 h3 (by omega)) R1.sm
    have h4 := dF h4
    rw [cnt_cage g] at h4
    have h4 : s.aboard.length < s.room := by omega
    refine ⟨_, rfl, y, C.P, dy, _, rfl, s1 _ _ he, T.cP, T.nPlace, (by show 2 < 1000; decide), ?_⟩
    have en : ∀ t : Nat, t ≤ s.time → Good (s.puts p .cage t) := fun t ht => g.puts hx (Nat.zero_le _) ht fun _ => .inr (by rw [← aboard_len]; exact h4)
    have cn : ∀ t : Nat, t ≤ s.time → cnt (s.puts p .cage t) 9 = s.aboard.length + 1 := fun t ht => by
      rw [cnt_cage (en t ht)]
      have := puts_aboard (q := .cage) (t := t) hx
      rw [if_neg h2, if_pos rfl] at this
      exact this
    have xs : x.since ≤ s.time := g.sn x (List.mem_of_getElem? hx)
    have R2 : Tr C H0 (upd H1 y (.ins C.P dy (putF "place" (V.int 9) (psF x)))) a (s.puts p .cage x.since) o := R1.per (u := ⟨.cage, x.since⟩) e2 (s1 _ _ he)
    generalize upd H1 y (.ins C.P dy (putF "place" (V.int 9) (psF x))) = H2 at R2 ⊢
    refine ⟨_, rfl, a, C.S, o.dx, _, _, rfl, R2.sh.me, T.cS, T.nCage, rfl, rfl, _, rfl, ite2 (fun h => ?_) (fun h5 => ?_)⟩
    · have h := vInj (dT h)
      have h0 : s.at_ = 0 := by
        have : ((s.at_ : Nat) : Int) = 0 := h
        omega
      obtain ⟨y', dy', _, e2', he'⟩ := per_at R2.sh (p := p) (x := ⟨.cage, x.since⟩) (by
        show (s.persons.set p _)[p]? = _
        rw [List.getElem?_set_self (by omega)])
      have ey : y' = y := by rw [e2] at e2'; exact (Option.some.inj e2').symm
      subst ey
      refine ⟨_, rfl, a, C.S, o.dx, _, _, rfl, R2.sh.me, T.cS, T.nMinute, rfl, _, rfl, y', C.P, dy', _, rfl, he', T.cP, T.nSince, (by show 2 < 1000; decide), ?_⟩
      have R3 := R2.per (u := ⟨.cage, s.time⟩) e2 he'
      have e3 : ({ s.puts p .cage x.since with persons := (s.puts p .cage x.since).persons.set p ⟨.cage, s.time⟩ } : Shf) = s.puts p .cage s.time := by
        show ({ s with persons := (s.persons.set p _).set p _ } : Shf) = { s with persons := s.persons.set p _ }
        rw [List.set_set]
      rw [e3] at R3
      refine ⟨_, rfl, a, _, 9, rfl, R3.sh_ (en _ (Nat.le_refl _)), fun H4 s4 => ?_⟩
      rw [cn _ (Nat.le_refl _)]
      refine hk.yes (t := s.puts p .cage s.time) ?_ (R3.same s4)
      have := chg_board_ok hx h2 h3 h4
      rw [if_pos h0] at this
      exact this
    · have h5 : s.at_ ≠ 0 := fun q => dF h5 (congrArg V.int (show ((s.at_ : Nat) : Int) = 0 by omega))
      refine ⟨_, rfl, a, _, 9, rfl, R2.sh_ (en _ xs), fun H4 s4 => ?_⟩
      rw [cn _ xs]
      refine hk.yes (t := s.puts p .cage x.since) ?_ (R2.same s4)
      have := chg_board_ok hx h2 h3 h4
      rw [if_neg h5] at this
      exact this
/-! ### sh_leave -/
theorem sc_sh_leave : FnScope ["shaft", "number", "person"] ["shaft", "number"] (defScope t_sh_leave) := ⟨rfl, rfl, rfl, by decide +kernel, rfl, by decide +kernel, by decide +kernel⟩
theorem foul_at {s : Shf} {v : Lev} (h : (v0 :: s.levels)[s.at_]? = some v) : foulAt s ↔ 10000 < v.gas := by
  unfold foulAt
  cases q : s.at_ with
  | zero =>
    rw [q] at h
    have e : v0 = v := by simpa using h
    subst e
    constructor
    · rintro ⟨u, hu, _⟩
      rw [level_none (.inl rfl)] at hu
      cases hu
    · intro z
      exact absurd z (by decide)
  | succ l =>
    rw [q] at h
    have h : s.levels[l]? = some v := by simpa using h
    rw [level_some h]
    constructor
    · rintro ⟨u, hu, z⟩
      cases hu
      exact z
    · exact fun z => ⟨v, rfl, z⟩
theorem ok_sh_leave (T : Txt K mg C) (D : Df K mg "sh_leave" t_sh_leave ["shaft", "number"] f fd) (GC : Kn P w K mg base 2 "count_at" ["shaft", "place"] (spCount C) f1 fd1) (GF : Kn P w K mg base 1 "is_foul" ["level"] (spIsFoul C) f2 fd2)
    (GS : Kn P w K mg base 6 "is_safe" ["shaft"] (spSafe C) f3 fd3) : Kn P w K mg base 7 "sh_leave" ["shaft", "number"] (spChg C 1 fun ns => .leave (ns.getD 0 0)) f fd := by
  refine D.kn (D.fn.ok sc_sh_leave (fun vs H Q E h => ?_) (fun cdv A outer s H vs Q E hr h => ?_))
  · obtain ⟨H0, a, s, o, ns, rfl, hl, _⟩ := h
    simp [hl]
  · obtain ⟨H0, a, s, o, ns, rfl, hl, R, g, hk⟩ := h
    obtain ⟨p, rfl⟩ := len1 hl
    have hk : After C H0 a s (.leave p) Q := hk
    have S := R.sh
    refine ⟨_, pss_cons (ps_if (pt_cmpR op_ge (pv 1) (pe_callB call_len_seq (by rfl) T.bLen bootLen (pa_cons (pe_fld (pv 0) rfl) pa_nil)) (nomark _)) (pss_one (ps_ret (pe_cst T.kMISSING rfl))) pss_nil)
      (pss_cons (ps_set (i := 2) sc_sh_leave.nd rfl (Or.inl rfl) (pe_ix ix_list (pe_fld (pv 0) rfl) (pv 1) (fun _ _ => rfl)))
      (pss_cons (ps_if (pt_cmpR op_ne (pe_fld (pv 2) rfl) (pe_cst T.kIN_CAGE rfl) (nomark _)) (pss_one (ps_ret (pe_cst T.kHINDERED rfl))) pss_nil)
      (pss_cons (ps_if (pt_val (pe_fn GF hr (pa_cons (pe_ix ix_list (pe_fld (pv 0) rfl) (pe_fld (pv 0) rfl) (fun _ _ => rfl)) pa_nil))) (pss_one (ps_ret (pe_cst T.kFOUL rfl))) pss_nil)
      (pss_cons (ps_fld (pv 2) (pe_fld (pv 0) rfl) rfl)
      (pss_cons (ps_if (pt_not (pt_val (pe_fn GS hr (pa_cons (pv 0) pa_nil)))) (pss_one (ps_ret (pe_cst T.kUNSAFE rfl))) pss_nil)
      (pss_one (ps_ret (pe_fn GC hr (pa_cons (pv 0) (pa_cons (pe_cst T.kIN_CAGE rfl) pa_nil)))))))))) , ?_⟩
    refine ⟨_, rfl, _, rfl, a, C.S, o.dx, _, _, rfl, S.me, T.cS, T.nPersons, rfl, o.pa, _, rfl, .inl (SqL.of S.pa), _, _, rfl, rfl, _, rfl, ite2 (fun h => ?_) (fun h1 => ?_)⟩
    · have h := dT h
      rw [List.length_map, S.ps.len] at h
      exact hk.no (chg_leave_none (nth_none (by omega))) R.sm
    have h1 := dF h1
    rw [List.length_map, S.ps.len] at h1
    obtain ⟨x, hx⟩ := nth_some (l := s.persons) (n := p) (by omega)
    obtain ⟨y, dy, e1, e2, he⟩ := per_at S hx
    have hx5 := g.wh5 x (List.mem_of_getElem? hx)
    refine ⟨_, rfl, a, C.S, o.dx, _, _, rfl, S.me, T.cS, T.nPersons, rfl, _, rfl, o.pa, _, _, _, rfl, rfl, SqL.of S.pa, atI_nat e1, ?_⟩
    refine ⟨_, rfl, y, C.P, dy, _, _, rfl, he, T.cP, T.nPlace, rfl, rfl, _, rfl, ite2 (fun h => ?_) (fun h2 => ?_)⟩
    · have h : pl x ≠ 9 := fun q => nT h (congrArg V.int (by omega))
      exact hk.no (chg_leave_out hx fun q => h ((pl_cage x hx5).mpr q)) R.sm
    have h2 := vInj (nF h2)
    have h2 : x.place = .cage := (pl_cage x hx5).mp (by omega)
    obtain ⟨z, dz, v, f1, f2, f3, hz, _⟩ := lev_at S g.at_
    have hf := foul_at f3
    refine ⟨_, rfl, a, C.S, o.dx, _, _, rfl, S.me, T.cS, T.nLevels, rfl, _, rfl, a, C.S, o.dx, _, _, rfl, S.me, T.cS, T.nCage, rfl, o.la, _, _, _, rfl, rfl, SqL.of S.la, atI_nat f1, z, v, rfl, ⟨dz, hz⟩, _, rfl, ite2 (fun h => ?_) (fun h3 => ?_)⟩
    · exact hk.no (chg_leave_foul hx h2 (hf.mpr (dT h))) R.sm
    have h3 : ¬ foulAt s := fun q => dF h3 (hf.mp q)
    refine ⟨_, rfl, a, C.S, o.dx, _, _, rfl, S.me, T.cS, T.nCage, rfl, _, rfl, y, C.P, dy, _, rfl, he, T.cP, T.nPlace, (by show 2 < 1000; decide), ?_⟩
    have R2 : Tr C H0 (upd H y (.ins C.P dy (putF "place" (vN s.at_) (psF x)))) a (s.puts p (.at_ s.at_) x.since) o := R.per (u := ⟨.at_ s.at_, x.since⟩) e2 he
    have g2 : Good (s.puts p (.at_ s.at_) x.since) := g.puts hx g.at_ (g.sn x (List.mem_of_getElem? hx)) (fun q => by cases q)
    generalize upd H y (.ins C.P dy (putF "place" (vN s.at_) (psF x))) = H2 at R2 ⊢
    refine ⟨_, rfl, a, _, rfl, R2.sh_ g2, fun H3 s3 => ⟨_, rfl, ?_⟩⟩
    have R3 := R2.same s3
    cases q : (s.puts p (.at_ s.at_) x.since).safe with
    | false => exact iteT (hk.no (chg_leave_unsafe hx h2 h3 q) R3.sm)
    | true =>
      refine iteF ?_
      refine ⟨_, rfl, a, _, 9, rfl, R3.sh_ g2, fun H4 s4 => ?_⟩
      rw [cnt_cage g2]
      exact hk.yes (chg_leave_ok hx h2 h3 q) (R3.same s4)
end
end Ms
set_option Elab.async false
set_option linter.all false
set_option maxRecDepth 100000
set_option maxHeartbeats 4000000
namespace Ms
open PySem PySem.Spec PyProof.Rows L2
section
variable {P : Program} {w : World} {K : PySem.W.Frag} {mg : Str → Option Value} {base : Heap} {C : Ad} {f f1 f2 f3 : Addr} {fd fd1 fd2 fd3 : FuncData}
/-! ### winding -/
theorem abs_diff (x y : Nat) : (if (y : Int) - (x : Int) < 0 then -((y : Int) - (x : Int)) else (y : Int) - (x : Int)) = ((Km413.absDiff x y : Nat) : Int) := by
  unfold Km413.absDiff
  split <;> split <;> omega
theorem takes_int {s : Shf} (h : 1 ≤ s.speed) (l : Nat) : (((Km413.absDiff (s.depth s.at_) (s.depth l) : Nat) : Int) + ((s.speed : Nat) : Int) - 1) / ((s.speed : Nat) : Int) = ((takes s l : Nat) : Int) := by
  have e : ((Km413.absDiff (s.depth s.at_) (s.depth l) : Nat) : Int) + ((s.speed : Nat) : Int) - 1 = ((Km413.absDiff (s.depth s.at_) (s.depth l) + s.speed - 1 : Nat) : Int) := by omega
  rw [e]
  exact (Int.natCast_ediv _ _).symm
theorem wound_good {s : Shf} (g : Good s) {l : Nat} (h : l ≤ s.levels.length) : Good (wound s l) := g.other rfl rfl rfl rfl rfl h g.lk g.od
/-- how many metres -/
def mts (s : Shf) (l : Nat) : Nat := Km413.absDiff (s.depth s.at_) (s.depth l)
theorem mts_max {s : Shf} (g : Good s) (l : Nat) : mts s l ≤ 2000 := by
  have := depth_max g l
  have := depth_max g s.at_
  unfold mts Km413.absDiff
  split <;> omega
def spMetres (C : Ad) : Sp := fun vs H Q _ => ∃ (a : Addr) (s : Shf) (l : Nat), vs = [.ref a, vN l] ∧ Sh C H a s ∧ l ≤ s.levels.length ∧ Q (vN (mts s l)) H
theorem sc_metres : FnScope ["shaft", "number"] ["shaft", "number"] (defScope t_metres_to) := ⟨rfl, rfl, rfl, by decide +kernel, rfl, by decide +kernel, by decide +kernel⟩
theorem ok_metres (T : Txt K mg C) (D : Df K mg "metres_to" t_metres_to ["shaft", "number"] f fd) : Kn P w K mg base 1 "metres_to" ["shaft", "number"] (spMetres C) f fd := by
  refine D.kn (D.fn.ok sc_metres (fun vs H Q E h => ?_) (fun cdv A outer s H vs Q E hr h => ?_))
  · obtain ⟨a, s, l, rfl, _⟩ := h
    rfl
  · obtain ⟨a, s, l, rfl, ⟨g, o, S⟩, h1, hk⟩ := h
    refine ⟨_, pss_one (ps_ret (pe_callB call_abs (by rfl) T.bAbs bootAbs (pa_cons (pe_op op_sub (pe_fld (pe_ix ix_list (pe_fld (pv 0) rfl) (pv 1) (fun _ _ => rfl)) rfl) (pe_fld (pe_ix ix_list (pe_fld (pv 0) rfl) (pe_fld (pv 0) rfl) (fun _ _ => rfl)) rfl)) pa_nil))), ?_⟩
    obtain ⟨x, dx, v, e1, _, _, hx, ex⟩ := lev_at S h1
    obtain ⟨y, dy, u, f1, _, _, hy, ey⟩ := lev_at S g.at_
    refine ⟨_, rfl, a, C.S, o.dx, _, _, rfl, S.me, T.cS, T.nLevels, rfl, _, rfl, o.la, _, _, _, rfl, rfl, SqL.of S.la, atI_nat e1, x, C.L, dx, _, _, rfl, hx, T.cL, T.nDepth, rfl,
      _, rfl, a, C.S, o.dx, _, _, rfl, S.me, T.cS, T.nLevels, rfl, _, rfl, a, C.S, o.dx, _, _, rfl, S.me, T.cS, T.nCage, rfl, o.la, _, _, _, rfl, rfl, SqL.of S.la, atI_nat f1, y, C.L, dy, _, _, rfl, hy, T.cL, T.nDepth, rfl, _, _, rfl, rfl, _, rfl, ?_⟩
    rw [ex, ey, abs_diff]
    exact hk
def spWearTo (C : Ad) : Sp := fun vs H Q _ => ∃ (a : Addr) (s : Shf) (l : Nat), vs = [.ref a, vN l] ∧ Sh C H a s ∧ l ≤ s.levels.length ∧ ∀ H', Same H H' → Q (vN (mts s l * s.load)) H'
theorem sc_wear_to : FnScope ["shaft", "number"] ["shaft", "number"] (defScope t_wear_to) := ⟨rfl, rfl, rfl, by decide +kernel, rfl, by decide +kernel, by decide +kernel⟩
theorem ok_wear_to (T : Txt K mg C) (D : Df K mg "wear_to" t_wear_to ["shaft", "number"] f fd) (GM : Kn P w K mg base 1 "metres_to" ["shaft", "number"] (spMetres C) f1 fd1) (GR : Kn P w K mg base 3 "on_the_rope" ["shaft"] (spOnRope C) f2 fd2) : Kn P w K mg base 4 "wear_to" ["shaft", "number"] (spWearTo C) f fd := by
  refine D.kn (D.fn.ok sc_wear_to (fun vs H Q E h => ?_) (fun cdv A outer s H vs Q E hr h => ?_))
  · obtain ⟨a, s, l, rfl, _⟩ := h
    rfl
  · obtain ⟨a, s, l, rfl, Sx, h1, hk⟩ := h
    refine ⟨_, pss_one (ps_ret (pe_op op_mul (pe_fn GM hr (pa_cons (pv 0) (pa_cons (pv 1) pa_nil))) (pe_fn GR hr (pa_cons (pv 0) pa_nil)))), ?_⟩
    have hm := mts_max Sx.good l
    refine ⟨_, rfl, _, rfl, a, s, l, rfl, Sx, h1, _, rfl, a, s, rfl, Sx, fun H1 s1 => ⟨_, _, rfl, rfl, .inl ⟨by omega, by omega⟩, ?_⟩⟩
    show Q (V.int (((mts s l : Nat) : Int) * ((s.load : Nat) : Int))) H1
    rw [← Int.natCast_mul]
    exact hk H1 s1
def spMove (C : Ad) : Sp := fun vs H Q _ => ∃ (H0 : Hp) (a : Addr) (s : Shf) (o : Ow) (l : Nat), vs = [.ref a, vN l] ∧ Tr C H0 H a s o ∧ Good s ∧ l ≤ s.levels.length ∧ ∀ H', Tr C H0 H' a (wound s l) o → Q .non H'
theorem sc_move : FnScope ["shaft", "number"] ["shaft", "number"] (defScope t_move_cage) := ⟨rfl, rfl, rfl, by decide +kernel, rfl, by decide +kernel, by decide +kernel⟩
theorem ok_move (T : Txt K mg C) (D : Df K mg "move_cage" t_move_cage ["shaft", "number"] f fd) (GW : Kn P w K mg base 4 "wear_to" ["shaft", "number"] (spWearTo C) f1 fd1) : Kn P w K mg base 5 "move_cage" ["shaft", "number"] (spMove C) f fd := by
  refine D.kn (D.fn.ok sc_move (fun vs H Q E h => ?_) (fun cdv A outer s H vs Q E hr h => ?_))
  · obtain ⟨H0, a, s, o, l, rfl, _⟩ := h
    rfl
  · obtain ⟨H0, a, s, o, l, rfl, R, g, h1, hk⟩ := h
    have S := R.sh
    refine ⟨_, pss_cons (ps_fldaug (pv 0) (pe_fn GW hr (pa_cons (pv 0) (pa_cons (pv 1) pa_nil))) in_add) (pss_one (ps_fld (pv 0) (pv 1) rfl)), ?_⟩
    refine ⟨_, rfl, a, C.S, o.dx, _, _, rfl, S.me, T.cS, T.nWorn, rfl, _, rfl, _, rfl, a, s, l, rfl, R.sh_ g, h1, fun H1 s1 => ?_⟩
    have R1 := R.same s1
    refine ⟨_, _, rfl, rfl, o.dx, _, R1.sh.me, (by show 12 < 1000; decide), ?_⟩
    have e2 : putF "worn" (V.int (((s.worn : Nat) : Int) + ((mts s l * s.load : Nat) : Int))) (shF s o) = shF { s with worn := s.worn + mts s l * s.load } o := by
      rw [← Int.natCast_add]
      rfl
    have R2 : Tr C H0 (upd H1 a (.ins C.S o.dx (putF "worn" (V.int (((s.worn : Nat) : Int) + ((mts s l * s.load : Nat) : Int))) (shF s o)))) a { s with worn := s.worn + mts s l * s.load } o := by
      rw [e2]
      exact R1.fld rfl rfl rfl
    refine ⟨_, rfl, _, rfl, a, C.S, o.dx, _, rfl, R2.sh.me, T.cS, T.nCage, (by show 12 < 1000; decide), ?_⟩
    have R3 : Tr C H0 _ a (wound s l) o := R2.fld (t := wound s l) rfl rfl rfl
    exact hk _ R3
def spWould (C : Ad) : Sp := fun vs H Q _ => ∃ (a : Addr) (s : Shf) (l : Nat), vs = [.ref a, vN l] ∧ Sh C H a s ∧ l ≤ s.levels.length ∧ ∀ H', Same H H' → Q (.bl (wound s l).safe) H'
theorem sc_would : FnScope ["shaft", "number", "twin"] ["shaft", "number"] (defScope t_would_be_safe_at) := ⟨rfl, rfl, rfl, by decide +kernel, rfl, by decide +kernel, by decide +kernel⟩
theorem ok_would (T : Txt K mg C) (D : Df K mg "would_be_safe_at" t_would_be_safe_at ["shaft", "number"] f fd) (GC : Kn P w K mg base 5 "copy_of_shaft" ["shaft"] (spCopy C) f1 fd1) (GM : Kn P w K mg base 5 "move_cage" ["shaft", "number"] (spMove C) f2 fd2)
    (GS : Kn P w K mg base 6 "is_safe" ["shaft"] (spSafe C) f3 fd3) : Kn P w K mg base 7 "would_be_safe_at" ["shaft", "number"] (spWould C) f fd := by
  refine D.kn (D.fn.ok sc_would (fun vs H Q E h => ?_) (fun cdv A outer s H vs Q E hr h => ?_))
  · obtain ⟨a, s, l, rfl, _⟩ := h
    rfl
  · obtain ⟨a, s, l, rfl, Sx, h1, hk⟩ := h
    refine ⟨_, pss_cons (ps_set (i := 2) sc_would.nd rfl (Or.inl rfl) (pe_fn GC hr (pa_cons (pv 0) pa_nil)))
      (pss_cons (ps_expr (pe_fn GM hr (pa_cons (pv 2) (pa_cons (pv 1) pa_nil))))
      (pss_one (ps_ret (pe_fn GS hr (pa_cons (pv 2) pa_nil))))), ?_⟩
    refine ⟨_, rfl, a, s, rfl, Sx, fun H1 t o R => ?_⟩
    refine ⟨_, rfl, _, rfl, H, t, s, o, l, rfl, R, Sx.good, h1, fun H2 R2 => ?_⟩
    exact ⟨_, rfl, t, wound s l, rfl, R2.sh_ (wound_good Sx.good h1), fun H3 s3 => hk H3 (R2.sm.trans s3)⟩
/-- why the cage can't be wound there -/
def refW (s : Shf) (l : Nat) : Int := if s.levels.length < l then -2 else if l = s.at_ then -17 else if (wound s l).safe = false then -62 else 0
def spRefW (C : Ad) : Sp := fun vs H Q _ => ∃ (a : Addr) (s : Shf) (l : Nat), vs = [.ref a, vN l] ∧ Sh C H a s ∧ ∀ H', Same H H' → Q (.int (refW s l)) H'
theorem sc_refw : FnScope ["shaft", "number"] ["shaft", "number"] (defScope t_winding_refusal) := ⟨rfl, rfl, rfl, by decide +kernel, rfl, by decide +kernel, by decide +kernel⟩
theorem ok_refw (T : Txt K mg C) (D : Df K mg "winding_refusal" t_winding_refusal ["shaft", "number"] f fd) (GW : Kn P w K mg base 7 "would_be_safe_at" ["shaft", "number"] (spWould C) f1 fd1) : Kn P w K mg base 8 "winding_refusal" ["shaft", "number"] (spRefW C) f fd := by
  refine D.kn (D.fn.ok sc_refw (fun vs H Q E h => ?_) (fun cdv A outer s H vs Q E hr h => ?_))
  · obtain ⟨a, s, l, rfl, _⟩ := h
    rfl
  · obtain ⟨a, s, l, rfl, ⟨g, o, S⟩, hk⟩ := h
    have hlen := S.lv.len
    rw [List.length_cons] at hlen
    refine ⟨_, pss_cons (ps_if (pt_cmpR op_ge (pv 1) (pe_callB call_len_seq (by rfl) T.bLen bootLen (pa_cons (pe_fld (pv 0) rfl) pa_nil)) (nomark _)) (pss_one (ps_ret (pe_cst T.kMISSING rfl))) pss_nil)
      (pss_cons (ps_if (pt_cmpR op_eq (pv 1) (pe_fld (pv 0) rfl) (nomark _)) (pss_one (ps_ret (pe_cst T.kALREADY rfl))) pss_nil)
      (pss_cons (ps_if (pt_not (pt_val (pe_fn GW hr (pa_cons (pv 0) (pa_cons (pv 1) pa_nil))))) (pss_one (ps_ret (pe_cst T.kUNSAFE rfl))) pss_nil)
      (pss_one (ps_ret pe_int)))), ?_⟩
    unfold refW at hk
    refine ⟨_, rfl, _, rfl, a, C.S, o.dx, _, _, rfl, S.me, T.cS, T.nLevels, rfl, o.la, _, rfl, .inl (SqL.of S.la), _, _, rfl, rfl, _, rfl, ite2 (fun h => ?_) (fun h1 => ?_)⟩
    · have h := dT h
      rw [List.length_map, hlen] at h
      rw [if_pos (by omega)] at hk
      exact hk H (Same.refl _)
    have h1 := dF h1
    rw [List.length_map, hlen] at h1
    have h1 : l ≤ s.levels.length := by omega
    rw [if_neg (by omega)] at hk
    refine ⟨_, rfl, _, rfl, a, C.S, o.dx, _, _, rfl, S.me, T.cS, T.nCage, rfl, rfl, _, rfl, ite2 (fun h => ?_) (fun h2 => ?_)⟩
    · have h := vInj (dT h)
      rw [if_pos (by omega)] at hk
      exact hk H (Same.refl _)
    have h2 : l ≠ s.at_ := fun q => dF h2 (congrArg V.int (by omega))
    rw [if_neg h2] at hk
    refine ⟨_, rfl, _, rfl, a, s, l, rfl, ⟨g, o, S⟩, h1, fun H1 s1 => ⟨_, rfl, ?_⟩⟩
    cases q : (wound s l).safe with
    | false =>
      rw [q, if_pos rfl] at hk
      exact iteT (hk H1 s1)
    | true =>
      rw [q, if_neg (by decide)] at hk
      exact iteF (hk H1 s1)
theorem sc_sh_wind : FnScope ["shaft", "number", "refusal", "minutes"] ["shaft", "number"] (defScope t_sh_wind) := ⟨rfl, rfl, rfl, by decide +kernel, rfl, by decide +kernel, by decide +kernel⟩
theorem ok_sh_wind (T : Txt K mg C) (D : Df K mg "sh_wind" t_sh_wind ["shaft", "number"] f fd) (GW : Kn P w K mg base 8 "winding_refusal" ["shaft", "number"] (spRefW C) f1 fd1) (GM : Kn P w K mg base 1 "metres_to" ["shaft", "number"] (spMetres C) f2 fd2)
    (GP : Kn P w K mg base 3 "pass_minutes" ["shaft", "minutes"] (spPass C) f3 fd3) {f4 : Addr} {fd4 : FuncData} (GV : Kn P w K mg base 5 "move_cage" ["shaft", "number"] (spMove C) f4 fd4) : Kn P w K mg base 9 "sh_wind" ["shaft", "number"] (spChg C 1 fun ns => .wind (ns.getD 0 0)) f fd := by
  refine D.kn (D.fn.ok sc_sh_wind (fun vs H Q E h => ?_) (fun cdv A outer s H vs Q E hr h => ?_))
  · obtain ⟨H0, a, s, o, ns, rfl, hl, _⟩ := h
    simp [hl]
  · obtain ⟨H0, a, s, o, ns, rfl, hl, R, g, hk⟩ := h
    obtain ⟨l, rfl⟩ := len1 hl
    have hk : After C H0 a s (.wind l) Q := hk
    refine ⟨_, pss_cons (ps_set (i := 2) sc_sh_wind.nd rfl (Or.inl rfl) (pe_fn GW hr (pa_cons (pv 0) (pa_cons (pv 1) pa_nil))))
      (pss_cons (ps_if (pt_cmpR op_lt (pv 2) pe_int (nomark _)) (pss_one (ps_ret (pv 2))) pss_nil)
      (pss_cons (ps_set (i := 3) sc_sh_wind.nd rfl (Or.inl rfl) (pe_op op_fdiv (pe_op op_sub (pe_op op_add (pe_fn GM hr (pa_cons (pv 0) (pa_cons (pv 1) pa_nil))) (pe_fld (pv 0) rfl)) pe_int) (pe_fld (pv 0) rfl)))
      (pss_cons (ps_if (pt_cmpR op_gt (pe_op op_add (pe_fld (pv 0) rfl) (pv 3)) (pe_cst T.kLAST_MINUTE_TO_WIND rfl) (nomark _)) (pss_one (ps_ret (pe_cst T.kTOO_LATE rfl))) pss_nil)
      (pss_cons (ps_expr (pe_fn GV hr (pa_cons (pv 0) (pa_cons (pv 1) pa_nil))))
      (pss_cons (ps_expr (pe_fn GP hr (pa_cons (pv 0) (pa_cons (pv 3) pa_nil))))
      (pss_one (ps_ret (pv 3)))))))), ?_⟩
    refine ⟨_, rfl, _, rfl, a, s, l, rfl, R.sh_ g, fun H1 s1 => ?_⟩
    have R1 := R.same s1
    refine ⟨_, rfl, _, _, rfl, rfl, _, rfl, ite2 (fun h => ?_) (fun h1 => ?_)⟩
    · have h : refW s l < 0 := dT h
      refine ⟨_, rfl, ?_⟩
      by_cases c1 : s.levels.length < l
      · have e : refW s l = -2 := by unfold refW; rw [if_pos c1]
        rw [e]
        exact hk.no (chg_wind_none c1) R1.sm
      by_cases c2 : l = s.at_
      · have e : refW s l = -17 := by unfold refW; rw [if_neg c1, if_pos c2]
        rw [e]
        exact hk.no (chg_wind_there (by omega) c2) R1.sm
      cases c3 : (wound s l).safe with
      | false =>
        have e : refW s l = -62 := by unfold refW; rw [if_neg c1, if_neg c2, if_pos c3]
        rw [e]
        exact hk.no (chg_wind_unsafe (by omega) c2 c3) R1.sm
      | true =>
        have e : refW s l = 0 := by unfold refW; rw [if_neg c1, if_neg c2, if_neg (by rw [c3]; decide)]
        omega
    have h1 : ¬ refW s l < 0 := dF h1
    have c1 : ¬ s.levels.length < l := fun q => h1 (by unfold refW; rw [if_pos q]; decide)
    have c2 : ¬ l = s.at_ := fun q => h1 (by unfold refW; rw [if_neg c1, if_pos q]; decide)
    have c3 : (wound s l).safe = true := by
      cases q : (wound s l).safe with
      | true => rfl
      | false => exact absurd (by unfold refW; rw [if_neg c1, if_neg c2, if_pos q]; decide) h1
    have hl1 : l ≤ s.levels.length := by omega
    refine ⟨_, rfl, _, rfl, a, s, l, rfl, R1.sh_ g, hl1, _, rfl, a, C.S, o.dx, _, _, rfl, R1.sh.me, T.cS, T.nSpeed, rfl, _, _, rfl, rfl, _, _, rfl, rfl, _, rfl, a, C.S, o.dx, _, _, rfl, R1.sh.me, T.cS, T.nSpeed, rfl, _, _, rfl, rfl, ⟨?_, ?_⟩, ?_⟩
    · have := g.sp1
      show (0 : Int) < ((s.speed : Nat) : Int)
      omega
    · have := g.sp2
      show ((s.speed : Nat) : Int) < _
      omega
    have et := takes_int g.sp1 l
    show tSeq _ _ _ (List.set _ 3 (some (V.int ((((Km413.absDiff (s.depth s.at_) (s.depth l) : Nat) : Int) + ((s.speed : Nat) : Int) - 1) / ((s.speed : Nat) : Int))))) _
    rw [et]
    refine ⟨_, rfl, a, C.S, o.dx, _, _, rfl, R1.sh.me, T.cS, T.nMinute, rfl, _, rfl, _, _, rfl, rfl, _, _, rfl, rfl, _, rfl, ite2 (fun h => ?_) (fun h5 => ?_)⟩
    · have h : (1000000 : Int) < ((s.time : Nat) : Int) + ((takes s l : Nat) : Int) := dT h
      exact hk.no (chg_wind_late hl1 c2 c3 (by omega)) R1.sm
    have h5 : ¬ (1000000 : Int) < ((s.time : Nat) : Int) + ((takes s l : Nat) : Int) := dF h5
    refine ⟨_, rfl, _, rfl, H0, a, s, o, l, rfl, R1, g, hl1, fun H4 R4 => ?_⟩
    refine ⟨_, rfl, _, rfl, H0, a, wound s l, o, takes s l, rfl, R4, by omega, fun H5 R5 => ⟨_, rfl, ?_⟩⟩
    exact hk.yes (chg_wind_ok hl1 c2 c3 (by omega)) R5
/-! ### sh_wait -/
theorem sc_sh_wait : FnScope ["shaft", "minutes"] ["shaft", "minutes"] (defScope t_sh_wait) := ⟨rfl, rfl, rfl, by decide +kernel, rfl, by decide +kernel, by decide +kernel⟩
theorem ok_sh_wait (T : Txt K mg C) (D : Df K mg "sh_wait" t_sh_wait ["shaft", "minutes"] f fd) (GP : Kn P w K mg base 3 "pass_minutes" ["shaft", "minutes"] (spPass C) f3 fd3) :
    Kn P w K mg base 4 "sh_wait" ["shaft", "minutes"] (spChg C 1 fun ns => .wait (ns.getD 0 0)) f fd := by
  refine D.kn (D.fn.ok sc_sh_wait (fun vs H Q E h => ?_) (fun cdv A outer s H vs Q E hr h => ?_))
  · obtain ⟨H0, a, s, o, ns, rfl, hl, _⟩ := h
    simp [hl]
  · obtain ⟨H0, a, s, o, ns, rfl, hl, R, g, hk⟩ := h
    obtain ⟨n, rfl⟩ := len1 hl
    have hk : After C H0 a s (.wait n) Q := hk
    have S := R.sh
    refine ⟨_, pss_cons (ps_if (PW.pt (pw_or (pt_cmpR op_lt (pv 1) pe_int (nomark _)) (pw_or1 (pt_cmpR op_gt (pv 1) (pe_cst T.kLONGEST_WAIT rfl) (nomark _))))) (pss_one (ps_ret (pe_cst T.kWRONG rfl))) pss_nil)
      (pss_cons (ps_if (pt_cmpR op_gt (pe_op op_add (pe_fld (pv 0) rfl) (pv 1)) (pe_cst T.kLAST_MINUTE_TO_WAIT rfl) (nomark _)) (pss_one (ps_ret (pe_cst T.kTOO_LATE rfl))) pss_nil)
      (pss_cons (ps_expr (pe_fn GP hr (pa_cons (pv 0) (pa_cons (pv 1) pa_nil))))
      (pss_one (ps_ret (pe_fld (pv 0) rfl))))), ?_⟩
    refine ⟨_, rfl, _, _, rfl, rfl, _, rfl, ite2 (fun h => iteT (hk.no (chg_wait_bad (.inl ?_)) R.sm)) (fun h1 => ?_)⟩
    · have := dT h; omega
    refine ⟨_, rfl, _, _, rfl, rfl, _, rfl, ite2 (fun h => hk.no (chg_wait_bad (.inr ?_)) R.sm) (fun h2 => ?_)⟩
    · have := dT h; omega
    have h1 := dF h1
    have h2 := dF h2
    refine ⟨_, rfl, a, C.S, o.dx, _, _, rfl, S.me, T.cS, T.nMinute, rfl, _, rfl, _, _, rfl, rfl, _, _, rfl, rfl, _, rfl, ite2 (fun h => ?_) (fun h3 => ?_)⟩
    · have h := dT h
      exact hk.no (chg_wait_late (by omega) (by omega)) R.sm
    have h3 := dF h3
    refine ⟨_, rfl, _, rfl, H0, a, s, o, n, rfl, R, by omega, fun H1 R1 => ?_⟩
    refine ⟨_, rfl, a, C.S, o.dx, _, _, rfl, R1.sh.me, T.cS, T.nMinute, rfl, ?_⟩
    have e : (s.minutes n).time = s.time + n := by rw [minutes_eq]
    show Q (vN (s.minutes n).time) H1
    rw [e]
    exact hk.yes (chg_wait_ok (by omega) (by omega)) R1
/-! ### sh_fan -/
theorem sc_sh_fan : FnScope ["shaft", "number", "fan", "level"] ["shaft", "number", "fan"] (defScope t_sh_fan) := ⟨rfl, rfl, rfl, by decide +kernel, rfl, by decide +kernel, by decide +kernel⟩
theorem lev_at1 {H : Hp} {a : Addr} {s : Shf} {o : Ow} (S : ShAt C H a s o) {l : Nat} (h1 : 1 ≤ l) (hl : l ≤ s.levels.length) : ∃ x dx v, (o.ls.map V.ref)[l]? = some (V.ref x) ∧ o.ls[l]? = some x ∧ s.levels[l - 1]? = some v ∧ s.level l = some v ∧ H x = some (.ins C.L dx (lvF v)) := by
  obtain ⟨x, dx, v, e1, e2, e3, he, _⟩ := lev_at S hl
  obtain ⟨k, rfl⟩ : ∃ k, l = k + 1 := ⟨l - 1, by omega⟩
  have e4 : s.levels[k]? = some v := by simpa using e3
  exact ⟨x, dx, v, e1, e2, e4, level_some e4, he⟩
theorem set_lv {s : Shf} {l : Nat} (h1 : 1 ≤ l) (u : Lev) : (v0 :: s.levels).set l u = v0 :: s.levels.set (l - 1) u := by
  obtain ⟨k, rfl⟩ : ∃ k, l = k + 1 := ⟨l - 1, by omega⟩
  rfl
theorem b2n_on {n : Nat} (h : n ≤ 1) : b2n (n == 1) = n := by
  have : n = 0 ∨ n = 1 := by omega
  rcases this with rfl | rfl <;> rfl
theorem b2n_inj {b : Bool} {n : Nat} (h : n ≤ 1) : b2n b = n ↔ b = (n == 1) := by
  have : n = 0 ∨ n = 1 := by omega
  rcases this with rfl | rfl <;> cases b <;> simp [b2n]
theorem ok_sh_fan (T : Txt K mg C) (D : Df K mg "sh_fan" t_sh_fan ["shaft", "number", "fan"] f fd) (GL : Kn P w K mg base 1 "is_level" ["shaft", "number"] (spIsLevel C) f1 fd1) :
    Kn P w K mg base 2 "sh_fan" ["shaft", "number", "fan"] (spChg C 2 fun ns => .fan (ns.getD 0 0) (ns.getD 1 0)) f fd := by
  refine D.kn (D.fn.ok sc_sh_fan (fun vs H Q E h => ?_) (fun cdv A outer s H vs Q E hr h => ?_))
  · obtain ⟨H0, a, s, o, ns, rfl, hl, _⟩ := h
    simp [hl]
  · obtain ⟨H0, a, s, o, ns, rfl, hl, R, g, hk⟩ := h
    obtain ⟨l, n, rfl⟩ := len2 hl
    have hk : After C H0 a s (.fan l n) Q := hk
    have S := R.sh
    refine ⟨_, pss_cons (ps_if (pt_not (pt_val (pe_fn GL hr (pa_cons (pv 0) (pa_cons (pv 1) pa_nil))))) (pss_one (ps_ret (pe_cst T.kMISSING rfl))) pss_nil)
      (pss_cons (ps_if (pt_cmpR op_gt (pv 2) pe_int (nomark _)) (pss_one (ps_ret (pe_cst T.kWRONG rfl))) pss_nil)
      (pss_cons (ps_set (i := 3) sc_sh_fan.nd rfl (Or.inl rfl) (pe_ix ix_list (pe_fld (pv 0) rfl) (pv 1) (fun _ _ => rfl)))
      (pss_cons (ps_if (pt_cmpR op_eq (pe_fld (pv 3) rfl) (pv 2) (nomark _)) (pss_one (ps_ret (pe_cst T.kALREADY rfl))) pss_nil)
      (pss_cons (ps_fld (pv 3) (pv 2) rfl)
      (pss_one (ps_ret (pe_fld (pv 3) rfl))))))), ?_⟩
    refine ⟨_, rfl, _, rfl, a, s, l, rfl, R.sh_ g, _, rfl, ite2 (fun h => ?_) (fun h1 => ?_)⟩
    · have h := nT h
      exact hk.no (chg_fan_none (level_none (by omega))) R.sm
    have h1 := nF h1
    obtain ⟨x, dx, v, e1, e2, e3, e4, hx⟩ := lev_at1 S h1.1 h1.2
    refine ⟨_, rfl, _, _, rfl, rfl, _, rfl, ite2 (fun h => ?_) (fun h2 => ?_)⟩
    · have h := dT h
      exact hk.no (chg_fan_bad e4 (by omega)) R.sm
    have h2 := dF h2
    have h2 : n ≤ 1 := by omega
    refine ⟨_, rfl, a, C.S, o.dx, _, _, rfl, S.me, T.cS, T.nLevels, rfl, _, rfl, o.la, _, _, _, rfl, rfl, SqL.of S.la, atI_nat e1, ?_⟩
    refine ⟨_, rfl, x, C.L, dx, _, _, rfl, hx, T.cL, T.nFan, rfl, _, rfl, rfl, _, rfl, ite2 (fun h => ?_) (fun h3 => ?_)⟩
    · have h := vInj (dT h)
      exact hk.no (chg_fan_so e4 h2 ((b2n_inj h2).mp (by omega))) R.sm
    have h3 : v.fan ≠ (n == 1) := fun q => dF h3 (congrArg V.int (by rw [(b2n_inj h2).mpr q]))
    refine ⟨_, rfl, _, rfl, x, C.L, dx, _, rfl, hx, T.cL, T.nFan, (by show 6 < 1000; decide), ?_⟩
    have e5 : putF "fan" (vN n) (lvF v) = lvF { v with fan := n == 1 } := by
      have e6 : lvF { v with fan := n == 1 } = putF "fan" (vN (b2n (n == 1))) (lvF v) := rfl
      rw [e6, b2n_on h2]
    have R2 := R.lev (u := { v with fan := n == 1 }) e2 hx (set_lv h1.1 _)
    rw [← e5] at R2
    refine ⟨_, rfl, x, C.L, dx, _, _, rfl, upd_same, T.cL, T.nGas, rfl, ?_⟩
    exact hk.yes (chg_fan_ok e4 h2 h3) R2
end
end Ms
set_option Elab.async false
set_option linter.all false
set_option maxRecDepth 100000
set_option maxHeartbeats 4000000
namespace Ms
open PySem PySem.Spec PyProof.Rows L2
section
variable {P : Program} {w : World} {K : PySem.W.Frag} {mg : Str → Option Value} {base : Heap} {C : Ad} {f f1 f2 f3 : Addr} {fd fd1 fd2 fd3 : FuncData}
/-! ### sh_mine -/
theorem sc_sh_mine : FnScope ["shaft", "number", "kilograms", "level"] ["shaft", "number", "kilograms"] (defScope t_sh_mine) := ⟨rfl, rfl, rfl, by decide +kernel, rfl, by decide +kernel, by decide +kernel⟩
theorem ok_sh_mine (T : Txt K mg C) (D : Df K mg "sh_mine" t_sh_mine ["shaft", "number", "kilograms"] f fd) (GL : Kn P w K mg base 1 "is_level" ["shaft", "number"] (spIsLevel C) f1 fd1) (GC : Kn P w K mg base 2 "count_at" ["shaft", "place"] (spCount C) f2 fd2) :
    Kn P w K mg base 3 "sh_mine" ["shaft", "number", "kilograms"] (spChg C 2 fun ns => .mine (ns.getD 0 0) (ns.getD 1 0)) f fd := by
  refine D.kn (D.fn.ok sc_sh_mine (fun vs H Q E h => ?_) (fun cdv A outer s H vs Q E hr h => ?_))
  · obtain ⟨H0, a, s, o, ns, rfl, hl, _⟩ := h
    simp [hl]
  · obtain ⟨H0, a, s, o, ns, rfl, hl, R, g, hk⟩ := h
    obtain ⟨l, n, rfl⟩ := len2 hl
    have hk : After C H0 a s (.mine l n) Q := hk
    have S := R.sh
    refine ⟨_, pss_cons (ps_if (pt_not (pt_val (pe_fn GL hr (pa_cons (pv 0) (pa_cons (pv 1) pa_nil))))) (pss_one (ps_ret (pe_cst T.kMISSING rfl))) pss_nil)
      (pss_cons (ps_if (PW.pt (pw_or (pt_cmpR op_lt (pv 2) pe_int (nomark _)) (pw_or1 (pt_cmpR op_gt (pv 2) (pe_cst T.kMOST_MINED_AT_ONCE rfl) (nomark _))))) (pss_one (ps_ret (pe_cst T.kWRONG rfl))) pss_nil)
      (pss_cons (ps_if (pt_cmpR op_eq (pe_fn GC hr (pa_cons (pv 0) (pa_cons (pv 1) pa_nil))) pe_int (nomark _)) (pss_one (ps_ret (pe_cst T.kNOTHING rfl))) pss_nil)
      (pss_cons (ps_if (pt_cmpR op_gt (pe_op op_add (pe_fld (pv 0) rfl) (pv 2)) (pe_cst T.kMOST_EVER_MINED rfl) (nomark _)) (pss_one (ps_ret (pe_cst T.kFULL rfl))) pss_nil)
      (pss_cons (ps_set (i := 3) sc_sh_mine.nd rfl (Or.inl rfl) (pe_ix ix_list (pe_fld (pv 0) rfl) (pv 1) (fun _ _ => rfl)))
      (pss_cons (ps_fldaug (pv 3) (pv 2) in_add)
      (pss_cons (ps_fldaug (pv 0) (pv 2) in_add)
      (pss_one (ps_ret (pe_fld (pv 3) rfl))))))))), ?_⟩
    refine ⟨_, rfl, _, rfl, a, s, l, rfl, R.sh_ g, _, rfl, ite2 (fun h => ?_) (fun h1 => ?_)⟩
    · have h := nT h
      exact hk.no (chg_mine_none (level_none (by omega))) R.sm
    have h1 := nF h1
    obtain ⟨x, dx, v, e1, e2, e3, e4, hx⟩ := lev_at1 S h1.1 h1.2
    refine ⟨_, rfl, _, _, rfl, rfl, _, rfl, ite2 (fun h => iteT (hk.no (chg_mine_bad e4 (.inl ?_)) R.sm)) (fun h2 => ?_)⟩
    · have := dT h; omega
    refine ⟨_, rfl, _, _, rfl, rfl, _, rfl, ite2 (fun h => hk.no (chg_mine_bad e4 (.inr ?_)) R.sm) (fun h3 => ?_)⟩
    · have := dT h; omega
    have h2 := dF h2
    have h3 := dF h3
    refine ⟨_, rfl, _, rfl, a, s, l, rfl, R.sh_ g, fun H1 s1 => ?_⟩
    have R1 := R.same s1
    have l5 : l ≤ 5 := Nat.le_trans h1.2 g.lv
    refine ⟨rfl, _, rfl, ite2 (fun h => ?_) (fun h4 => ?_)⟩
    · have h : ((cnt s l : Nat) : Int) = 0 := vInj (dT h)
      rw [cnt_at g l5] at h
      exact hk.no (chg_mine_nobody e4 (by omega) (by omega)) R1.sm
    have h4 : (s.onLevel l).length ≠ 0 := fun q => dF h4 (congrArg V.int (show ((cnt s l : Nat) : Int) = 0 by rw [cnt_at g l5]; omega))
    refine ⟨_, rfl, a, C.S, o.dx, _, _, rfl, R1.sh.me, T.cS, T.nMined, rfl, _, rfl, _, _, rfl, rfl, _, _, rfl, rfl, _, rfl, ite2 (fun h => ?_) (fun h5 => ?_)⟩
    · have h := dT h
      exact hk.no (chg_mine_full e4 (by omega) h4 (by omega)) R1.sm
    have h5 := dF h5
    refine ⟨_, rfl, a, C.S, o.dx, _, _, rfl, R1.sh.me, T.cS, T.nLevels, rfl, _, rfl, o.la, _, _, _, rfl, rfl, SqL.of R1.sh.la, atI_nat e1, ?_⟩
    refine ⟨_, rfl, x, C.L, dx, _, _, rfl, s1 _ _ hx, T.cL, T.nOre, rfl, _, rfl, _, _, rfl, rfl, dx, _, s1 _ _ hx, (by show 6 < 1000; decide), ?_⟩
    have e5 : putF "ore" (V.int (((v.heap : Nat) : Int) + (n : Int))) (lvF v) = lvF { v with heap := v.heap + n } := by
      rw [← Int.natCast_add]
      rfl
    have R2 := R1.lev (u := { v with heap := v.heap + n }) e2 (s1 _ _ hx) (set_lv h1.1 _)
    rw [← e5] at R2
    have m2 := R2.sh.me
    refine ⟨_, rfl, a, C.S, o.dx, _, _, rfl, m2, T.cS, T.nMined, rfl, _, rfl, _, _, rfl, rfl, o.dx, _, m2, (by show 12 < 1000; decide), ?_⟩
    have R3 := R2.fld (t := { s with levels := s.levels.set (l - 1) { v with heap := v.heap + n }, mined := s.mined + n }) rfl rfl rfl
    have e6 : putF "mined" (V.int (((s.mined : Nat) : Int) + (n : Int))) (shF { s with levels := s.levels.set (l - 1) { v with heap := v.heap + n } } o) = shF { s with levels := s.levels.set (l - 1) { v with heap := v.heap + n }, mined := s.mined + n } o := by
      rw [← Int.natCast_add]
      rfl
    rw [← e6] at R3
    have xa : x ≠ a := ne_of hx S.me lv_ne_sh
    refine ⟨_, rfl, x, C.L, dx, _, _, rfl, (upd_ne xa).trans upd_same, T.cL, T.nOre, rfl, ?_⟩
    refine hk.yes ?_ R3
    have := chg_mine_ok e4 (k := n) (by omega) h4 (by omega)
    rw [Int.natCast_add] at this
    exact this
/-! ### sh_load -/
theorem sc_sh_load : FnScope ["shaft", "kilograms", "level"] ["shaft", "kilograms"] (defScope t_sh_load) := ⟨rfl, rfl, rfl, by decide +kernel, rfl, by decide +kernel, by decide +kernel⟩
theorem loaded_good {s : Shf} (g : Good s) {v : Lev} {k : Nat} (h : s.levels[s.at_ - 1]? = some v) : Good (loaded s v k) := (g.lvset (u := { v with heap := v.heap - k }) h rfl rfl rfl).other rfl rfl rfl rfl rfl (by show s.at_ ≤ (s.levels.set _ _).length; rw [List.length_set]; exact g.at_) g.lk g.od
theorem ok_sh_load (T : Txt K mg C) (D : Df K mg "sh_load" t_sh_load ["shaft", "kilograms"] f fd) (GS : Kn P w K mg base 6 "is_safe" ["shaft"] (spSafe C) f1 fd1) :
    Kn P w K mg base 7 "sh_load" ["shaft", "kilograms"] (spChg C 1 fun ns => .load (ns.getD 0 0)) f fd := by
  refine D.kn (D.fn.ok sc_sh_load (fun vs H Q E h => ?_) (fun cdv A outer s H vs Q E hr h => ?_))
  · obtain ⟨H0, a, s, o, ns, rfl, hl, _⟩ := h
    simp [hl]
  · obtain ⟨H0, a, s, o, ns, rfl, hl, R, g, hk⟩ := h
    obtain ⟨n, rfl⟩ := len1 hl
    have hk : After C H0 a s (.load n) Q := hk
    have S := R.sh
    refine ⟨_, pss_cons (ps_if (pt_cmpR op_eq (pe_fld (pv 0) rfl) pe_int (nomark _)) (pss_one (ps_ret (pe_cst T.kHINDERED rfl))) pss_nil)
      (pss_cons (ps_if (pt_cmpR op_eq (pv 1) pe_int (nomark _)) (pss_one (ps_ret (pe_cst T.kWRONG rfl))) pss_nil)
      (pss_cons (ps_set (i := 2) sc_sh_load.nd rfl (Or.inl rfl) (pe_ix ix_list (pe_fld (pv 0) rfl) (pe_fld (pv 0) rfl) (fun _ _ => rfl)))
      (pss_cons (ps_if (pt_cmpR op_lt (pe_fld (pv 2) rfl) (pv 1) (nomark _)) (pss_one (ps_ret (pe_cst T.kTOO_LITTLE rfl))) pss_nil)
      (pss_cons (ps_if (pt_cmpR op_gt (pe_op op_add (pe_fld (pv 0) rfl) (pv 1)) (pe_cst T.kTUB_HOLDS rfl) (nomark _)) (pss_one (ps_ret (pe_cst T.kFULL rfl))) pss_nil)
      (pss_cons (ps_fldaug (pv 2) (pv 1) in_sub)
      (pss_cons (ps_fldaug (pv 0) (pv 1) in_add)
      (pss_cons (ps_if (pt_not (pt_val (pe_fn GS hr (pa_cons (pv 0) pa_nil)))) (pss_one (ps_ret (pe_cst T.kUNSAFE rfl))) pss_nil)
      (pss_one (ps_ret (pe_fld (pv 0) rfl)))))))))), ?_⟩
    refine ⟨_, rfl, a, C.S, o.dx, _, _, rfl, S.me, T.cS, T.nCage, rfl, rfl, _, rfl, ite2 (fun h => ?_) (fun h1 => ?_)⟩
    · have h : ((s.at_ : Nat) : Int) = 0 := vInj (dT h)
      exact hk.no (chg_load_up (level_none (.inl (by omega)))) R.sm
    have h1 : s.at_ ≠ 0 := fun q => dF h1 (congrArg V.int (show ((s.at_ : Nat) : Int) = 0 by omega))
    have h1 : 1 ≤ s.at_ := by omega
    obtain ⟨x, dx, v, e1, e2, e3, e4, hx⟩ := lev_at1 S h1 g.at_
    refine ⟨_, rfl, rfl, _, rfl, ite2 (fun h => ?_) (fun h2 => ?_)⟩
    · have h : ((n : Nat) : Int) = 0 := vInj (dT h)
      exact hk.no (chg_load_bad e4 (by omega)) R.sm
    have h2 : n ≠ 0 := fun q => dF h2 (congrArg V.int (show ((n : Nat) : Int) = 0 by omega))
    refine ⟨_, rfl, a, C.S, o.dx, _, _, rfl, S.me, T.cS, T.nLevels, rfl, _, rfl, a, C.S, o.dx, _, _, rfl, S.me, T.cS, T.nCage, rfl, o.la, _, _, _, rfl, rfl, SqL.of S.la, atI_nat e1, ?_⟩
    refine ⟨_, rfl, x, C.L, dx, _, _, rfl, hx, T.cL, T.nOre, rfl, _, rfl, _, _, rfl, rfl, _, rfl, ite2 (fun h => ?_) (fun h3 => ?_)⟩
    · have h := dT h
      exact hk.no (chg_load_less e4 h2 (by omega)) R.sm
    have h3 := dF h3
    have h3 : n ≤ v.heap := by omega
    refine ⟨_, rfl, a, C.S, o.dx, _, _, rfl, S.me, T.cS, T.nTub, rfl, _, rfl, _, _, rfl, rfl, _, _, rfl, rfl, _, rfl, ite2 (fun h => ?_) (fun h4 => ?_)⟩
    · have h := dT h
      exact hk.no (chg_load_full e4 h2 h3 (by omega)) R.sm
    have h4 := dF h4
    have h4 : s.tub + n ≤ 3000 := by omega
    refine ⟨_, rfl, x, C.L, dx, _, _, rfl, hx, T.cL, T.nOre, rfl, _, rfl, _, _, rfl, rfl, dx, _, hx, (by show 6 < 1000; decide), ?_⟩
    have e5 : putF "ore" (V.int (((v.heap : Nat) : Int) - (n : Int))) (lvF v) = lvF { v with heap := v.heap - n } := by
      rw [show ((v.heap : Nat) : Int) - (n : Int) = ((v.heap - n : Nat) : Int) by omega]
      rfl
    have R2 := R.lev (u := { v with heap := v.heap - n }) e2 hx (set_lv h1 _)
    rw [← e5] at R2
    have m2 := R2.sh.me
    refine ⟨_, rfl, a, C.S, o.dx, _, _, rfl, m2, T.cS, T.nTub, rfl, _, rfl, _, _, rfl, rfl, o.dx, _, m2, (by show 12 < 1000; decide), ?_⟩
    have R3 : Tr C H0 _ a (loaded s v n) o := R2.fld (t := loaded s v n) rfl rfl rfl
    have e6 : putF "tub" (V.int (((s.tub : Nat) : Int) + (n : Int))) (shF { s with levels := s.levels.set (s.at_ - 1) { v with heap := v.heap - n } } o) = shF (loaded s v n) o := by
      rw [← Int.natCast_add]
      rfl
    rw [← e6] at R3
    have g3 : Good (loaded s v n) := loaded_good g e3
    refine ⟨_, rfl, a, loaded s v n, rfl, R3.sh_ g3, fun H4 s4 => ⟨_, rfl, ?_⟩⟩
    have R4 := R3.same s4
    cases q : (loaded s v n).safe with
    | false => exact iteT (hk.no (chg_load_unsafe e4 h2 h3 h4 q) R4.sm)
    | true =>
      refine iteF ?_
      refine ⟨_, rfl, a, C.S, o.dx, _, _, rfl, R4.sh.me, T.cS, T.nTub, rfl, ?_⟩
      exact hk.yes (chg_load_ok e4 h2 h3 h4 q) R4
/-! ### sh_dump -/
theorem sc_sh_dump : FnScope ["shaft"] ["shaft"] (defScope t_sh_dump) := ⟨rfl, rfl, rfl, by decide +kernel, rfl, by decide +kernel, by decide +kernel⟩
theorem ok_sh_dump (T : Txt K mg C) (D : Df K mg "sh_dump" t_sh_dump ["shaft"] f fd) : Kn P w K mg base 1 "sh_dump" ["shaft"] (spChg C 0 fun _ => .dump) f fd := by
  refine D.kn (D.fn.ok sc_sh_dump (fun vs H Q E h => ?_) (fun cdv A outer s H vs Q E hr h => ?_))
  · obtain ⟨H0, a, s, o, ns, rfl, hl, _⟩ := h
    simp [hl]
  · obtain ⟨H0, a, s, o, ns, rfl, hl, R, g, hk⟩ := h
    obtain rfl := len0 hl
    have hk : After C H0 a s .dump Q := hk
    have S := R.sh
    refine ⟨_, pss_cons (ps_if (pt_cmpR op_ne (pe_fld (pv 0) rfl) pe_int (nomark _)) (pss_one (ps_ret (pe_cst T.kHINDERED rfl))) pss_nil)
      (pss_cons (ps_if (pt_cmpR op_eq (pe_fld (pv 0) rfl) pe_int (nomark _)) (pss_one (ps_ret (pe_cst T.kNOTHING rfl))) pss_nil)
      (pss_cons (ps_fldaug (pv 0) (pe_fld (pv 0) rfl) in_add)
      (pss_cons (ps_fld (pv 0) pe_int rfl)
      (pss_one (ps_ret (pe_fld (pv 0) rfl)))))), ?_⟩
    refine ⟨_, rfl, a, C.S, o.dx, _, _, rfl, S.me, T.cS, T.nCage, rfl, rfl, _, rfl, ite2 (fun h => ?_) (fun h1 => ?_)⟩
    · have h : ¬ s.at_ = 0 := fun q => nT h (congrArg V.int (show ((s.at_ : Nat) : Int) = 0 by omega))
      exact hk.no (chg_dump_below h) R.sm
    have h1 : ((s.at_ : Nat) : Int) = 0 := vInj (nF h1)
    have h1 : s.at_ = 0 := by omega
    refine ⟨_, rfl, a, C.S, o.dx, _, _, rfl, S.me, T.cS, T.nTub, rfl, rfl, _, rfl, ite2 (fun h => ?_) (fun h2 => ?_)⟩
    · have h : ((s.tub : Nat) : Int) = 0 := vInj (dT h)
      exact hk.no (chg_dump_empty h1 (by omega)) R.sm
    have h2 : s.tub ≠ 0 := fun q => dF h2 (congrArg V.int (show ((s.tub : Nat) : Int) = 0 by omega))
    refine ⟨_, rfl, a, C.S, o.dx, _, _, rfl, S.me, T.cS, T.nDumped, rfl, _, rfl, a, C.S, o.dx, _, _, rfl, S.me, T.cS, T.nTub, rfl, _, _, rfl, rfl, o.dx, _, S.me, (by show 12 < 1000; decide), ?_⟩
    have e6 : putF "dumped" (V.int (((s.bin : Nat) : Int) + ((s.tub : Nat) : Int))) (shF s o) = shF { s with bin := s.bin + s.tub } o := by
      rw [← Int.natCast_add]
      rfl
    have R2 := R.fld (t := { s with bin := s.bin + s.tub }) rfl rfl rfl
    rw [← e6] at R2
    refine ⟨_, rfl, a, C.S, o.dx, _, rfl, R2.sh.me, T.cS, T.nTub, (by show 12 < 1000; decide), ?_⟩
    have R3 := R2.fld (t := { s with bin := s.bin + s.tub, tub := 0 }) rfl rfl rfl
    refine ⟨_, rfl, a, C.S, o.dx, _, _, rfl, R3.sh.me, T.cS, T.nDumped, rfl, ?_⟩
    exact hk.yes (chg_dump_ok h1 h2) R3
end
end Ms
set_option Elab.async false
set_option linter.all false
set_option maxRecDepth 100000
set_option maxHeartbeats 4000000
namespace Ms
open PySem PySem.Spec PyProof.Rows L2
section
variable {P : Program} {w : World} {K : PySem.W.Frag} {mg : Str → Option Value} {base : Heap} {C : Ad} {f f1 f2 f3 : Addr} {fd fd1 fd2 fd3 : FuncData}
/-! ### sh_rope -/
theorem sc_sh_rope : FnScope ["shaft", "rope", "worn", "person"] ["shaft", "rope"] (defScope t_sh_rope) := ⟨rfl, rfl, rfl, by decide +kernel, rfl, by decide +kernel, by decide +kernel⟩
theorem any_below (s : Shf) : ((s.persons.map fun x => Km413.levelIn x != 0).any id) = true ↔ bl s ≠ [] := by
  unfold bl
  rw [List.any_map, List.any_eq_true]
  constructor
  · rintro ⟨x, hx, h⟩ e
    have : x ∈ s.persons.filter fun x => Km413.levelIn x != 0 := List.mem_filter.mpr ⟨hx, h⟩
    rw [List.map_eq_nil_iff.mp e] at this
    cases this
  · intro h
    cases q : s.persons.filter fun x => Km413.levelIn x != 0 with
    | nil => rw [q] at h; exact absurd rfl h
    | cons x r =>
      have : x ∈ s.persons.filter fun x => Km413.levelIn x != 0 := by rw [q]; exact List.mem_cons_self ..
      obtain ⟨h1, h2⟩ := List.mem_filter.mp this
      exact ⟨x, h1, h2⟩
theorem ok_sh_rope (T : Txt K mg C) (D : Df K mg "sh_rope" t_sh_rope ["shaft", "rope"] f fd) (GB : Kn P w K mg base 1 "is_below" ["person"] (spIsBelow C) f1 fd1) :
    Kn P w K mg base 2 "sh_rope" ["shaft", "rope"] (spChg C 1 fun ns => .rope (ns.getD 0 0)) f fd := by
  refine D.kn (D.fn.ok sc_sh_rope (fun vs H Q E h => ?_) (fun cdv A outer s H vs Q E hr h => ?_))
  · obtain ⟨H0, a, s, o, ns, rfl, hl, _⟩ := h
    simp [hl]
  · obtain ⟨H0, a, s, o, ns, rfl, hl, R, g, hk⟩ := h
    obtain ⟨n, rfl⟩ := len1 hl
    have hk : After C H0 a s (.rope n) Q := hk
    have S := R.sh
    refine ⟨_, pss_cons (ps_if (pt_cmpR op_gt (pv 1) (pe_cst T.kSTRONGEST_ROPE rfl) (nomark _)) (pss_one (ps_ret (pe_cst T.kWRONG rfl))) pss_nil)
      (pss_cons (ps_if (PW.pt (pw_or (pt_cmpR op_ne (pe_fld (pv 0) rfl) pe_int (nomark _)) (pw_or1 (pt_val (pe_callB (cr_any rfl) (by rfl) T.bAny bootAny (pa_cons (pe_lc (own := [("person", 3)]) rfl sc_sh_rope.nd (pi_list (pe_fld (pv 0) rfl)) (blkOk_by rfl)
        (fun _ _ _ _ _ => pg_name (i := 3) sc_sh_rope.nd rfl (Or.inl rfl)) (fun _ _ _ _ _ => pts_nil) (fun _ _ _ _ _ => pe_fn GB hr (pa_cons (pv 3) pa_nil))) pa_nil)))))) (pss_one (ps_ret (pe_cst T.kHINDERED rfl))) pss_nil)
      (pss_cons (ps_set (i := 2) sc_sh_rope.nd rfl (Or.inl rfl) (pe_fld (pv 0) rfl))
      (pss_cons (ps_fld (pv 0) (pv 1) rfl)
      (pss_cons (ps_fld (pv 0) pe_int rfl)
      (pss_one (ps_ret (pv 2))))))), ?_⟩
    refine ⟨_, rfl, _, _, rfl, rfl, _, rfl, ite2 (fun h => ?_) (fun h1 => ?_)⟩
    · have h := dT h
      exact hk.no (chg_rope_bad (by omega)) R.sm
    have h1 := dF h1
    have h1 : n ≤ 2000000000 := by omega
    refine ⟨_, rfl, a, C.S, o.dx, _, _, rfl, S.me, T.cS, T.nCage, rfl, rfl, _, rfl, ite2 (fun h => ?_) (fun h2 => ?_)⟩
    · have h : s.at_ ≠ 0 := fun q => nT h (congrArg V.int (show ((s.at_ : Nat) : Int) = 0 by omega))
      exact iteT (hk.no (chg_rope_busy h1 (.inl h)) R.sm)
    have h2 : ((s.at_ : Nat) : Int) = 0 := vInj (nF h2)
    have h2 : s.at_ = 0 := by omega
    refine ⟨_, rfl, a, C.S, o.dx, _, _, rfl, S.me, T.cS, T.nPersons, rfl, o.pa, rfl, ⟨_, SqL.of S.pa⟩, fun Dd hD => ?_⟩
    refine lc_fm (K := K) (xs := o.ps.map V.ref) s.persons (fun _ => true) (fun x => V.bl (Km413.levelIn x != 0)) (SqL.of S.pa) (by rw [List.length_map, S.ps.len]) (lt_line (Nat.le_trans g.ps (by decide))) hD (fun x => rfl) ?_ ?_ ?_
    · intro j x y H1 k1 hx hy hs h3
      exact h3 _ (Same.refl _)
    · intro j x y H1 k1 hx hy _ hs h4
      rw [List.getElem?_map] at hx
      obtain ⟨p, hp, rfl⟩ := Option.map_eq_some_iff.mp hx
      obtain ⟨dx, he⟩ := S.ps.at_ j _ _ hp hy
      exact ⟨_, rfl, p, y, rfl, ⟨dx, hs _ _ he⟩, g.wh5 y (List.mem_of_getElem? hy), h4 _ (Same.refl _)⟩
    intro H1 s1 hd
    have e : ((s.persons.filter fun _ => true).map fun x => V.bl (Km413.levelIn x != 0)) = (s.persons.map fun x => Km413.levelIn x != 0).map V.bl := by
      rw [List.filter_eq_self.mpr (fun _ _ => rfl), List.map_map]
      rfl
    rw [e] at hd
    have R1 := R.same s1
    refine ⟨Dd, _, rfl, SqL.of hd, _, rfl, ite2 (fun h => ?_) (fun h3 => ?_)⟩
    · exact hk.no (chg_rope_busy h1 (.inr ((any_below s).mp h))) R1.sm
    have h3 : bl s = [] := Classical.byContradiction fun q => h3 ((any_below s).mpr q)
    refine ⟨_, rfl, a, C.S, o.dx, _, _, rfl, R1.sh.me, T.cS, T.nWorn, rfl, ?_⟩
    refine ⟨_, rfl, _, rfl, a, C.S, o.dx, _, rfl, R1.sh.me, T.cS, T.nRope, (by show 12 < 1000; decide), ?_⟩
    have R2 := R1.fld (t := { s with rope := n }) rfl rfl rfl
    refine ⟨_, rfl, a, C.S, o.dx, _, rfl, R2.sh.me, T.cS, T.nWorn, (by show 12 < 1000; decide), ?_⟩
    have R3 := R2.fld (t := { s with rope := n, worn := 0 }) rfl rfl rfl
    exact ⟨_, rfl, hk.yes (chg_rope_ok h1 h2 h3) R3⟩
/-! ### the locks -/
theorem sc_sh_lock : FnScope ["shaft"] ["shaft"] (defScope t_sh_lock) := ⟨rfl, rfl, rfl, by decide +kernel, rfl, by decide +kernel, by decide +kernel⟩
theorem ok_sh_lock (T : Txt K mg C) (D : Df K mg "sh_lock" t_sh_lock ["shaft"] f fd) : Kn P w K mg base 1 "sh_lock" ["shaft"] (spChg C 0 fun _ => .lock) f fd := by
  refine D.kn (D.fn.ok sc_sh_lock (fun vs H Q E h => ?_) (fun cdv A outer s H vs Q E hr h => ?_))
  · obtain ⟨H0, a, s, o, ns, rfl, hl, _⟩ := h
    simp [hl]
  · obtain ⟨H0, a, s, o, ns, rfl, hl, R, g, hk⟩ := h
    obtain rfl := len0 hl
    have hk : After C H0 a s .lock Q := hk
    have S := R.sh
    have hlen := S.lk.len
    refine ⟨_, pss_cons (ps_if (pt_cmpR op_ge (pe_callB call_len_seq (by rfl) T.bLen bootLen (pa_cons (pe_fld (pv 0) rfl) pa_nil)) (pe_cst T.kMOST_LOCKS rfl) (nomark _)) (pss_one (ps_ret (pe_cst T.kFULL rfl))) pss_nil)
      (pss_cons (ps_expr (pe_bm PySem.F.plainAttrs_list PySem.F.slot_list_append PySem.F.type_list_append mt_append (pe_fld (pv 0) rfl) (pa_cons (pe_lst (pa_cons pe_bl (pa_cons pe_bl pa_nil))) pa_nil)))
      (pss_one (ps_ret (pe_op op_sub (pe_callB call_len_seq (by rfl) T.bLen bootLen (pa_cons (pe_fld (pv 0) rfl) pa_nil)) pe_int)))), ?_⟩
    refine ⟨_, rfl, a, C.S, o.dx, _, _, rfl, S.me, T.cS, T.nLocks, rfl, o.ka, _, rfl, .inl (SqL.of S.ka), _, _, rfl, rfl, _, rfl, ite2 (fun h => ?_) (fun h1 => ?_)⟩
    · have h := dT h
      rw [List.length_map, hlen] at h
      exact hk.no (chg_lock_full (by omega)) R.sm
    have h1 := dF h1
    rw [List.length_map, hlen] at h1
    refine ⟨_, rfl, a, C.S, o.dx, _, _, rfl, S.me, T.cS, T.nLocks, rfl, .inl ⟨rfl, _, SqL.of S.ka⟩, (by show 2 ≤ sizeLine; decide), fun y ny => ?_⟩
    have s1 : Same H (upd H y (.lst [.bl false, .bl false])) := Same.upd_new ny
    have R1 := R.same s1
    have apart : ∀ x ∈ adr a o, y ≠ x := fun x hx q => by
      obtain ⟨u, hu⟩ := S.there hx
      rw [← q, ny] at hu
      cases hu
    have yl : y ∉ o.ks := fun q => apart y (adr_ks q) rfl
    refine ⟨o.ka, _, _, rfl, rfl, R1.sh.ka, ?_, ?_⟩
    · rw [List.length_map, hlen]
      exact lt_line (by omega)
    have R2 := R1.addK (v := (false, false)) (show upd H y _ y = _ from upd_same) yl (R.sm.free ny) (apart _ adr_la) (apart _ adr_pa) (apart _ adr_ka)
    refine ⟨_, rfl, a, C.S, o.dx, _, _, rfl, R2.sh.me, T.cS, T.nLocks, rfl, o.ka, _, rfl, .inl (SqL.of R2.sh.ka), _, _, rfl, rfl, ?_⟩
    have e : ((((o.ks ++ [y]).map V.ref).length : Nat) : Int) - 1 = ((s.locks.length : Nat) : Int) := by
      rw [List.length_map, List.length_append, hlen]
      simp
    show Q (V.int (((((o.ks ++ [y]).map V.ref).length : Nat) : Int) - 1)) _
    rw [e]
    exact hk.yes (chg_lock_ok (by omega)) R2
/-- why a door can't be made so -/
def drf (s : Shf) (k e : Nat) (b : Bool) : Int := match s.locks[k]? with
  | none => -2
  | some x => if 1 < e then -22 else if door x e = b then -17 else 0
def spDoor (C : Ad) : Sp := fun vs H Q _ => ∃ (a : Addr) (s : Shf) (k e : Nat) (b : Bool), vs = [.ref a, vN k, vN e, .bl b] ∧ Sh C H a s ∧ Q (.int (drf s k e b)) H
theorem sc_door : FnScope ["shaft", "lock", "side", "wanted"] ["shaft", "lock", "side", "wanted"] (defScope t_door_refusal) := ⟨rfl, rfl, rfl, by decide +kernel, rfl, by decide +kernel, by decide +kernel⟩
theorem lock_at {H : Hp} {a : Addr} {s : Shf} {o : Ow} (S : ShAt C H a s o) {k : Nat} {x : Bool × Bool} (h : s.locks[k]? = some x) : ∃ y, (o.ks.map V.ref)[k]? = some (V.ref y) ∧ o.ks[k]? = some y ∧ H y = some (.lst [.bl x.1, .bl x.2]) := by
  obtain ⟨y, hy, he⟩ := S.lk.get' h
  exact ⟨y, by rw [List.getElem?_map, hy]; rfl, hy, he⟩
theorem door_ix (x : Bool × Bool) {e : Nat} (h : e ≤ 1) : atI [V.bl x.1, V.bl x.2] ((e : Nat) : Int) = some (V.bl (door x e)) := by
  refine atI_nat ?_
  have : e = 0 ∨ e = 1 := by omega
  rcases this with rfl | rfl <;> rfl
theorem ok_door (T : Txt K mg C) (D : Df K mg "door_refusal" t_door_refusal ["shaft", "lock", "side", "wanted"] f fd) : Kn P w K mg base 1 "door_refusal" ["shaft", "lock", "side", "wanted"] (spDoor C) f fd := by
  refine D.kn (D.fn.ok sc_door (fun vs H Q E h => ?_) (fun cdv A outer s H vs Q E hr h => ?_))
  · obtain ⟨a, s, k, e, b, rfl, _⟩ := h
    rfl
  · obtain ⟨a, s, k, e, b, rfl, ⟨g, o, S⟩, hk⟩ := h
    unfold drf at hk
    refine ⟨_, pss_cons (ps_if (pt_cmpR op_ge (pv 1) (pe_callB call_len_seq (by rfl) T.bLen bootLen (pa_cons (pe_fld (pv 0) rfl) pa_nil)) (nomark _)) (pss_one (ps_ret (pe_cst T.kMISSING rfl))) pss_nil)
      (pss_cons (ps_if (pt_cmpR op_gt (pv 2) pe_int (nomark _)) (pss_one (ps_ret (pe_cst T.kWRONG rfl))) pss_nil)
      (pss_cons (ps_if (pt_cmpR op_eq (pe_ix ix_list (pe_ix ix_list (pe_fld (pv 0) rfl) (pv 1) (fun _ _ => rfl)) (pv 2) (fun _ _ => rfl)) (pv 3) (nomark _)) (pss_one (ps_ret (pe_cst T.kALREADY rfl))) pss_nil)
      (pss_one (ps_ret pe_int)))), ?_⟩
    refine ⟨_, rfl, _, rfl, a, C.S, o.dx, _, _, rfl, S.me, T.cS, T.nLocks, rfl, o.ka, _, rfl, .inl (SqL.of S.ka), _, _, rfl, rfl, _, rfl, ite2 (fun h => ?_) (fun h1 => ?_)⟩
    · have h := dT h
      rw [List.length_map, S.lk.len] at h
      rw [nth_none (by omega)] at hk
      exact hk
    have h1 := dF h1
    rw [List.length_map, S.lk.len] at h1
    obtain ⟨x, hx⟩ := nth_some (l := s.locks) (n := k) (by omega)
    simp only [hx] at hk
    obtain ⟨y, e1, e2, he⟩ := lock_at S hx
    refine ⟨_, rfl, _, _, rfl, rfl, _, rfl, ite2 (fun h => ?_) (fun h2 => ?_)⟩
    · have h := dT h
      rw [if_pos (by omega)] at hk
      exact hk
    have h2 := dF h2
    rw [if_neg (by omega)] at hk
    refine ⟨_, rfl, a, C.S, o.dx, _, _, rfl, S.me, T.cS, T.nLocks, rfl, _, rfl, o.ka, _, _, _, rfl, rfl, SqL.of S.ka, atI_nat e1, _, rfl, y, _, _, _, rfl, rfl, SqL.of he, door_ix x (by omega), _, rfl, rfl, _, rfl, ite2 (fun h => ?_) (fun h3 => ?_)⟩
    · have h := dT h
      injection h with h
      rw [if_pos h] at hk
      exact hk
    · rw [if_neg (fun q => dF h3 (congrArg V.bl q))] at hk
      exact hk
theorem drf_none {s : Shf} {k e : Nat} {b : Bool} (h : s.locks[k]? = none) : drf s k e b = -2 := by unfold drf; rw [h]
theorem drf_some {s : Shf} {k e : Nat} {b : Bool} {x : Bool × Bool} (h : s.locks[k]? = some x) : drf s k e b = if 1 < e then -22 else if door x e = b then -17 else 0 := by unfold drf; rw [h]
theorem sc_sh_open : FnScope ["shaft", "lock", "side", "refusal"] ["shaft", "lock", "side"] (defScope t_sh_open) := ⟨rfl, rfl, rfl, by decide +kernel, rfl, by decide +kernel, by decide +kernel⟩
theorem ixN_nat {n j : Nat} (h : j < n) : ixN n (j : Int) = some j := by
  unfold ixN
  rw [if_pos (by omega), if_pos (by omega), Int.toNat_natCast]
theorem ok_sh_open (T : Txt K mg C) (D : Df K mg "sh_open" t_sh_open ["shaft", "lock", "side"] f fd) (GD : Kn P w K mg base 1 "door_refusal" ["shaft", "lock", "side", "wanted"] (spDoor C) f1 fd1) :
    Kn P w K mg base 2 "sh_open" ["shaft", "lock", "side"] (spChg C 2 fun ns => .open_ (ns.getD 0 0) (ns.getD 1 0)) f fd := by
  refine D.kn (D.fn.ok sc_sh_open (fun vs H Q E h => ?_) (fun cdv A outer s H vs Q E hr h => ?_))
  · obtain ⟨H0, a, s, o, ns, rfl, hl, _⟩ := h
    simp [hl]
  · obtain ⟨H0, a, s, o, ns, rfl, hl, R, g, hk⟩ := h
    obtain ⟨k, e, rfl⟩ := len2 hl
    have hk : After C H0 a s (.open_ k e) Q := hk
    have S := R.sh
    refine ⟨_, pss_cons (ps_set (i := 3) sc_sh_open.nd rfl (Or.inl rfl) (pe_fn GD hr (pa_cons (pv 0) (pa_cons (pv 1) (pa_cons (pv 2) (pa_cons pe_bl pa_nil))))))
      (pss_cons (ps_if (pt_cmpR op_lt (pv 3) pe_int (nomark _)) (pss_one (ps_ret (pv 3))) pss_nil)
      (pss_cons (ps_if (pt_val (pe_ix ix_list (pe_ix ix_list (pe_fld (pv 0) rfl) (pv 1) (fun _ _ => rfl)) (pe_op op_sub pe_int (pv 2)) (fun _ _ => rfl))) (pss_one (ps_ret (pe_cst T.kHINDERED rfl))) pss_nil)
      (pss_cons (ps_asg pe_bl (pg_sub (pe_ix ix_list (pe_fld (pv 0) rfl) (pv 1) (fun _ _ => rfl)) (pv 2) set_list))
      (pss_one (ps_ret pe_int))))), ?_⟩
    refine ⟨_, rfl, _, rfl, _, rfl, a, s, k, e, true, rfl, R.sh_ g, ?_⟩
    cases hx : s.locks[k]? with
    | none =>
      rw [drf_none hx]
      refine ⟨_, rfl, _, _, rfl, rfl, _, rfl, iteT ⟨_, rfl, ?_⟩⟩
      exact hk.no (chg_open_none hx) R.sm
    | some x =>
      rw [drf_some hx]
      obtain ⟨y, e1, e2, he⟩ := lock_at S hx
      by_cases h1 : 1 < e
      · rw [if_pos h1]
        refine ⟨_, rfl, _, _, rfl, rfl, _, rfl, iteT ⟨_, rfl, ?_⟩⟩
        exact hk.no (chg_open_bad hx h1) R.sm
      rw [if_neg h1]
      have h1 : e ≤ 1 := by omega
      by_cases h2 : door x e = true
      · rw [if_pos h2]
        refine ⟨_, rfl, _, _, rfl, rfl, _, rfl, iteT ⟨_, rfl, ?_⟩⟩
        exact hk.no (chg_open_so hx h1 h2) R.sm
      rw [if_neg h2]
      have h2 : door x e = false := by simpa using h2
      refine ⟨_, rfl, _, _, rfl, rfl, _, rfl, iteF ?_⟩
      have e3 : (1 : Int) - ((e : Nat) : Int) = ((1 - e : Nat) : Int) := by omega
      refine ⟨_, rfl, a, C.S, o.dx, _, _, rfl, S.me, T.cS, T.nLocks, rfl, _, rfl, o.ka, _, _, _, rfl, rfl, SqL.of S.ka, atI_nat e1, _, rfl, _, _, rfl, rfl, y, _, _, _, rfl, rfl, SqL.of he, (by rw [e3]; exact door_ix x (by omega)), _, rfl, ite2 (fun h => ?_) (fun h3 => ?_)⟩
      · exact hk.no (chg_open_other hx h1 h2 h) R.sm
      have h3 : door x (1 - e) = false := by simpa using h3
      refine ⟨_, rfl, a, C.S, o.dx, _, _, rfl, S.me, T.cS, T.nLocks, rfl, _, rfl, o.ka, _, _, _, rfl, rfl, SqL.of S.ka, atI_nat e1, _, rfl, y, _, _, e, rfl, rfl, he, ixN_nat (by show e < 2; omega), ?_⟩
      have e4 : ([V.bl x.1, V.bl x.2] : List V).set e (V.bl true) = [V.bl (e == 0), V.bl (e == 1)] := by
        have : e = 0 ∨ e = 1 := by omega
        rcases this with rfl | rfl
        · have : x.2 = false := h3
          rw [this]; rfl
        · have : x.1 = false := h3
          rw [this]; rfl
      rw [e4]
      exact hk.yes (chg_open_ok hx h1 h2 h3) (R.lck (u := (e == 0, e == 1)) e2)
theorem sc_sh_shut : FnScope ["shaft", "lock", "side", "refusal"] ["shaft", "lock", "side"] (defScope t_sh_shut) := ⟨rfl, rfl, rfl, by decide +kernel, rfl, by decide +kernel, by decide +kernel⟩
theorem ok_sh_shut (T : Txt K mg C) (D : Df K mg "sh_shut" t_sh_shut ["shaft", "lock", "side"] f fd) (GD : Kn P w K mg base 1 "door_refusal" ["shaft", "lock", "side", "wanted"] (spDoor C) f1 fd1) :
    Kn P w K mg base 2 "sh_shut" ["shaft", "lock", "side"] (spChg C 2 fun ns => .shut (ns.getD 0 0) (ns.getD 1 0)) f fd := by
  refine D.kn (D.fn.ok sc_sh_shut (fun vs H Q E h => ?_) (fun cdv A outer s H vs Q E hr h => ?_))
  · obtain ⟨H0, a, s, o, ns, rfl, hl, _⟩ := h
    simp [hl]
  · obtain ⟨H0, a, s, o, ns, rfl, hl, R, g, hk⟩ := h
    obtain ⟨k, e, rfl⟩ := len2 hl
    have hk : After C H0 a s (.shut k e) Q := hk
    have S := R.sh
    refine ⟨_, pss_cons (ps_set (i := 3) sc_sh_shut.nd rfl (Or.inl rfl) (pe_fn GD hr (pa_cons (pv 0) (pa_cons (pv 1) (pa_cons (pv 2) (pa_cons pe_bl pa_nil))))))
      (pss_cons (ps_if (pt_cmpR op_lt (pv 3) pe_int (nomark _)) (pss_one (ps_ret (pv 3))) pss_nil)
      (pss_cons (ps_asg pe_bl (pg_sub (pe_ix ix_list (pe_fld (pv 0) rfl) (pv 1) (fun _ _ => rfl)) (pv 2) set_list))
      (pss_one (ps_ret pe_int)))), ?_⟩
    refine ⟨_, rfl, _, rfl, _, rfl, a, s, k, e, false, rfl, R.sh_ g, ?_⟩
    cases hx : s.locks[k]? with
    | none =>
      rw [drf_none hx]
      refine ⟨_, rfl, _, _, rfl, rfl, _, rfl, iteT ⟨_, rfl, ?_⟩⟩
      exact hk.no (chg_shut_none hx) R.sm
    | some x =>
      rw [drf_some hx]
      obtain ⟨y, e1, e2, he⟩ := lock_at S hx
      by_cases h1 : 1 < e
      · rw [if_pos h1]
        refine ⟨_, rfl, _, _, rfl, rfl, _, rfl, iteT ⟨_, rfl, ?_⟩⟩
        exact hk.no (chg_shut_bad hx h1) R.sm
      rw [if_neg h1]
      have h1 : e ≤ 1 := by omega
      by_cases h2 : door x e = false
      · rw [if_pos h2]
        refine ⟨_, rfl, _, _, rfl, rfl, _, rfl, iteT ⟨_, rfl, ?_⟩⟩
        exact hk.no (chg_shut_so hx h1 h2) R.sm
      rw [if_neg h2]
      have h2 : door x e = true := by simpa using h2
      refine ⟨_, rfl, _, _, rfl, rfl, _, rfl, iteF ?_⟩
      refine ⟨_, rfl, a, C.S, o.dx, _, _, rfl, S.me, T.cS, T.nLocks, rfl, _, rfl, o.ka, _, _, _, rfl, rfl, SqL.of S.ka, atI_nat e1, _, rfl, y, _, _, e, rfl, rfl, he, ixN_nat (by show e < 2; omega), ?_⟩
      have od := g.od x (List.mem_of_getElem? hx)
      have e4 : ([V.bl x.1, V.bl x.2] : List V).set e (V.bl false) = [V.bl false, V.bl false] := by
        have : e = 0 ∨ e = 1 := by omega
        rcases this with rfl | rfl
        · have q : x.1 = true := h2
          have : x.2 = false := by
            cases z : x.2 with
            | false => rfl
            | true => exact absurd ⟨q, z⟩ od
          rw [this]; rfl
        · have q : x.2 = true := h2
          have : x.1 = false := by
            cases z : x.1 with
            | false => rfl
            | true => exact absurd ⟨z, q⟩ od
          rw [this]; rfl
      rw [e4]
      exact hk.yes (chg_shut_ok hx h1 h2) (R.lck (u := (false, false)) e2)
end
end Ms
set_option Elab.async false
set_option linter.all false
set_option maxRecDepth 100000
namespace Ms
open Km413
/-! ### questions: what is told of a shaft -/
def askN (s : Shaft) (c : Call) : List Int := Km413Neutral.told (act ⟨s, [], []⟩ c).2
def isAsk : Call → Bool
  | .where_ _ | .below | .who _ | .cage | .need | .next | .gas _ | .foul | .long _ | .may _ | .ore | .doors => true
  | _ => false
theorem act_ask (d : Desk) (c : Call) (h : isAsk c = true) : (act d c).1 = d ∧ Km413Neutral.told (act d c).2 = askN d.now c := by
  cases c <;> first | (simp only [isAsk] at h; cases h; done) | exact ⟨rfl, rfl⟩
/-! ### bits -/
theorem bits_fold : ∀ (l : List Nat) (a : Nat), l.foldl (fun w k => w + 2 ^ k) a = a + bits l
  | [], a => by simp [bits]
  | x :: l, a => by
    have e : bits (x :: l) = l.foldl (fun w k => w + 2 ^ k) (0 + 2 ^ x) := rfl
    rw [e, List.foldl_cons, bits_fold l (a + 2 ^ x), bits_fold l (0 + 2 ^ x)]
    omega
theorem bits_cons (x : Nat) (l : List Nat) : bits (x :: l) = 2 ^ x + bits l := by
  have e : bits (x :: l) = l.foldl (fun w k => w + 2 ^ k) (0 + 2 ^ x) := rfl
  rw [e, bits_fold]
  omega
theorem bits_int : ∀ l : List Nat, ((l.map fun (k : Nat) => (1 : Int) * 2 ^ ((k : Int).toNat)).sum) = ((bits l : Nat) : Int)
  | [] => rfl
  | x :: l => by
    rw [List.map_cons, List.sum_cons, bits_int l, bits_cons, Int.natCast_add, Int.one_mul, Int.toNat_natCast, Int.natCast_pow]
    rfl
/-! ### the first of a list that fits -/
theorem find_only {p : Nat → Bool} {L : List Nat} {l : Nat} (hm : l ∈ L) (hp : p l = true) (hu : ∀ x ∈ L, p x = true → x = l) : L.find? p = some l := by
  cases h : L.find? p with
  | none =>
    have := List.find?_eq_none.mp h l hm
    exact absurd hp this
  | some x =>
    rw [hu x (List.mem_of_find?_eq_some h) (List.find?_some h)]
theorem find_up {p : Nat → Bool} {m : Nat} (hp : ∀ n, p n = decide (m ≤ n)) : ∀ N : Nat, (List.range N).find? p = if m < N then some m else none
  | 0 => by rw [if_neg (by omega)]; rfl
  | N + 1 => by
    rw [List.range_succ, List.find?_append, find_up hp N]
    by_cases h : m < N
    · rw [if_pos h, if_pos (by omega)]; rfl
    · rw [if_neg h]
      by_cases h2 : m = N
      · subst h2
        rw [if_pos (by omega)]
        simp [hp]
      · rw [if_neg (by omega)]
        have : p N = false := by rw [hp]; exact decide_eq_false (by omega)
        simp [this]
theorem find_never {p : Nat → Bool} {L : List Nat} (hp : ∀ n, p n = false) : L.find? p = none := by
  rw [List.find?_eq_none]
  intro x _
  rw [hp]
  decide
/-! ### when the air will be foul -/
def warn (v : Level) : Nat := match v.foulIn with
  | none => 0
  | some n => n + 1
theorem gain_up {v : Level} (h : cl v < v.rate) (n : Nat) : (v.after n).gas = v.gas + n * (v.rate - cl v) := by
  have e := after_gas n v
  have e2 : (v.gas : Int) + (n : Int) * ((v.rate : Int) - (cl v : Int)) = ((v.gas + n * (v.rate - cl v) : Nat) : Int) := by
    rw [Int.natCast_add, Int.natCast_mul, Int.natCast_sub (by omega)]
  rw [e2] at e
  split at e <;> omega
theorem gain_down {v : Level} (h : v.rate ≤ cl v) (n : Nat) : (v.after n).gas ≤ v.gas := by
  have e := after_gas n v
  have p : (n : Int) * ((v.rate : Int) - (cl v : Int)) ≤ 0 := Int.mul_nonpos_of_nonneg_of_nonpos (Int.natCast_nonneg n) (by omega)
  generalize (n : Int) * ((v.rate : Int) - (cl v : Int)) = z at *
  split at e <;> omega
theorem warn_now {v : Level} (h : 10000 < v.gas) : warn v = 1 := by
  have e : v.foulIn = some 0 := by
    unfold Level.foulIn
    rw [List.range_succ_eq_map]
    rw [List.find?_cons_of_pos]
    exact decide_eq_true h
  unfold warn
  rw [e]
theorem warn_never {v : Level} (h : v.gas ≤ 10000) (hg : v.rate ≤ cl v) : warn v = 0 := by
  have e : v.foulIn = none := by
    unfold Level.foulIn
    refine find_never fun n => decide_eq_false ?_
    have := gain_down hg n
    show ¬ 10000 < _
    omega
  unfold warn
  rw [e]
theorem foul_up {v : Level} (h : v.gas ≤ 10000) (hg : cl v < v.rate) (n : Nat) : decide (FOUL < (v.after n).gas) = decide ((10000 - v.gas) / (v.rate - cl v) + 1 ≤ n) := by
  rw [gain_up hg n]
  have k : (10000 - v.gas) / (v.rate - cl v) < n ↔ 10000 - v.gas < n * (v.rate - cl v) := Nat.div_lt_iff_lt_mul (by omega)
  by_cases c : (10000 - v.gas) / (v.rate - cl v) < n
  · have := k.mp c
    rw [decide_eq_true (show FOUL < _ by show 10000 < _; omega), decide_eq_true (by omega)]
  · have : ¬ (10000 - v.gas < n * (v.rate - cl v)) := fun q => c (k.mpr q)
    rw [decide_eq_false (show ¬ FOUL < _ by show ¬ 10000 < _; omega), decide_eq_false (by omega)]
theorem warn_up {v : Level} (h : v.gas ≤ 10000) (hg : cl v < v.rate) : warn v = if (10000 - v.gas) / (v.rate - cl v) + 1 ≤ 1440 then (10000 - v.gas) / (v.rate - cl v) + 1 + 1 else 0 := by
  have e : v.foulIn = if (10000 - v.gas) / (v.rate - cl v) + 1 < 1441 then some ((10000 - v.gas) / (v.rate - cl v) + 1) else none := find_up (foul_up h hg) 1441
  unfold warn
  rw [e]
  generalize (10000 - v.gas) / (v.rate - cl v) + 1 = m
  by_cases c : m ≤ 1440
  · rw [if_pos (show m < 1441 by omega), if_pos c]
  · rw [if_neg (show ¬ m < 1441 by omega), if_neg c]
/-! ### the next step -/
theorem onLevel_mem {s : Shaft} (l : Nat) (h1 : 1 ≤ l) : (s.onLevel l).length ≠ 0 ↔ l ∈ bl s := by
  rw [onLevel_len]
  unfold bl
  constructor
  · intro h
    obtain ⟨x, hx⟩ : ∃ x, x ∈ s.persons.filter fun x => x.place == .at_ l := by
      cases q : s.persons.filter fun x => x.place == .at_ l with
      | nil => rw [q] at h; exact absurd rfl h
      | cons x r => exact ⟨x, List.mem_cons_self ..⟩
    obtain ⟨m, e⟩ := List.mem_filter.mp hx
    have e : x.place = .at_ l := by simpa using e
    have el : levelIn x = l := by unfold levelIn; rw [e]
    exact List.mem_map.mpr ⟨x, List.mem_filter.mpr ⟨m, by rw [el]; simp; omega⟩, el⟩
  · intro h
    obtain ⟨x, hx, rfl⟩ := List.mem_map.mp h
    obtain ⟨m, e⟩ := List.mem_filter.mp hx
    have e : levelIn x ≠ 0 := by simpa using e
    have ep : x.place = .at_ (levelIn x) := by
      unfold levelIn at e ⊢
      cases q : x.place with
      | cage => rw [q] at e; exact absurd rfl e
      | at_ k => rfl
    intro z
    have : x ∈ s.persons.filter fun y => y.place == .at_ (levelIn x) := List.mem_filter.mpr ⟨m, beq_iff_eq.mpr ep⟩
    rw [List.length_eq_zero_iff.mp z] at this
    cases this
theorem depth_inj {s : Shaft} (g : Good s) {a b : Nat} (ha : a ≤ s.levels.length) (hb : b ≤ s.levels.length) (h : s.depth a = s.depth b) : a = b := by
  have h1 := (depth_le g ha hb).mpr (by omega)
  have h2 := (depth_le g hb ha).mpr (by omega)
  omega
theorem levelOf_eq {s : Shaft} (g : Good s) {l : Nat} (h : l ∈ bls s) : s.levelOf (s.depth l) = l := by
  obtain ⟨h1, h2⟩ := bls_mem g h
  have hb : l ∈ bl s := (falling_perm _).mem_iff.mp h
  unfold Shaft.levelOf
  rw [find_only (l := l) (List.mem_range.mpr (by omega)) ?_ ?_]
  · rfl
  · have := (onLevel_mem (s := s) l h1).mpr hb
    simp only [Bool.and_eq_true, bne_iff_ne, beq_iff_eq]
    exact ⟨by omega, by first | trivial | rfl, this⟩
  · intro x hx hp
    simp only [Bool.and_eq_true, bne_iff_ne, beq_iff_eq] at hp
    have := List.mem_range.mp hx
    exact depth_inj g (by omega) h2 hp.2.1
theorem next_leave {s : Shaft} (h : s.at_ = 0) {p : Nat} {r : List Nat} (ha : s.aboard = p :: r) : s.next = .leave p := by
  unfold Shaft.next
  rw [if_pos h, ha]
theorem next_dump {s : Shaft} (h : s.at_ = 0) (ha : s.aboard = []) (ht : s.tub ≠ 0) : s.next = .dump := by
  unfold Shaft.next
  rw [if_pos h, ha]
  simp only [if_pos ht]
theorem next_down {s : Shaft} (g : Good s) (h : s.at_ = 0) (ha : s.aboard = []) (ht : s.tub = 0) {l : Nat} {r : List Nat} (hl : bls s = l :: r) : s.next = .wind l := by
  unfold Shaft.next
  rw [if_pos h, ha, depths_eq g, hl, List.map_cons]
  simp only [ht, ne_eq, not_true_eq_false, if_false]
  rw [levelOf_eq g (by rw [hl]; exact List.mem_cons_self ..)]
theorem next_none {s : Shaft} (g : Good s) (h : s.at_ = 0) (ha : s.aboard = []) (ht : s.tub = 0) (hl : bls s = []) : s.next = .none := by
  unfold Shaft.next
  rw [if_pos h, ha, depths_eq g, hl, List.map_nil]
  simp only [ht, ne_eq, not_true_eq_false, if_false]
theorem next_up {s : Shaft} (g : Good s) (h : s.at_ ≠ 0) (ht : takenL s = []) : s.next = .wind 0 := by
  unfold Shaft.next
  rw [if_neg h, taken_eq g, ht, List.map_nil]
  cases s.onLevel s.at_ <;> rfl
theorem taken_head {s : Shaft} {l : Nat} {r : List Nat} (h : takenL s = l :: r) : ∃ q, reached s = l :: q := by
  unfold takenL at h
  cases e : reached s with
  | nil => rw [e, List.take_nil] at h; cases h
  | cons a q =>
    rw [e] at h
    cases k : s.room - s.aboard.length with
    | zero => rw [k] at h; cases h
    | succ n =>
      rw [k, List.take_succ_cons] at h
      injection h with h1 h2
      exact ⟨q, by rw [h1]⟩
theorem taken_in {s : Shaft} {l : Nat} {r : List Nat} (h : takenL s = l :: r) : l ∈ bls s ∧ l ≤ s.at_ := by
  obtain ⟨q, e⟩ := taken_head h
  have : l ∈ reached s := by rw [e]; exact List.mem_cons_self ..
  unfold reached at this
  obtain ⟨h1, h2⟩ := List.mem_filter.mp this
  exact ⟨h1, of_decide_eq_true h2⟩
theorem next_board {s : Shaft} (g : Good s) (h : s.at_ ≠ 0) {l : Nat} {r : List Nat} (ht : takenL s = l :: r) (hl : l = s.at_) : ∃ p q, s.onLevel s.at_ = p :: q ∧ s.next = .board p := by
  have hm := (taken_in ht).1
  have hb : s.at_ ∈ bl s := by rw [← hl]; exact (falling_perm _).mem_iff.mp hm
  have hn := (onLevel_mem (s := s) s.at_ (by omega)).mpr hb
  cases e : s.onLevel s.at_ with
  | nil => rw [e] at hn; exact absurd rfl hn
  | cons p q =>
    refine ⟨p, q, rfl, ?_⟩
    unfold Shaft.next
    rw [if_neg h, e, taken_eq g, ht, List.map_cons]
theorem next_fetch {s : Shaft} (g : Good s) (h : s.at_ ≠ 0) {l : Nat} {r : List Nat} (ht : takenL s = l :: r) (hl : l ≠ s.at_) : s.next = .wind l := by
  obtain ⟨q, eq⟩ := taken_head ht
  obtain ⟨hm, hle⟩ := taken_in ht
  have e : s.onLevel s.at_ = [] := by
    cases e : s.onLevel s.at_ with
    | nil => rfl
    | cons p q' =>
      have hb := (onLevel_mem (s := s) s.at_ (by omega)).mp (by rw [e]; simp)
      have hr : s.at_ ∈ reached s := by
        unfold reached
        exact List.mem_filter.mpr ⟨(falling_perm _).mem_iff.mpr hb, decide_eq_true (Nat.le_refl _)⟩
      have hs : (reached s).Pairwise (· ≥ ·) := (falling_sorted (bl s)).filter _
      rw [eq] at hr hs
      rw [List.pairwise_cons] at hs
      rcases List.mem_cons.mp hr with z | z
      · exact absurd z.symm hl
      · have := hs.1 _ z
        omega
  unfold Shaft.next
  rw [if_neg h, e, taken_eq g, ht, List.map_cons]
  simp only
  rw [levelOf_eq g hm]
/-! ### who is long below -/
def longP (s : Shaft) (n p : Nat) : Bool := match s.persons[p]? with
    | some x => levelIn x != 0 && decide ((x.since : Int) ≤ (s.time : Int) - (n : Int))
    | none => false
theorem longP_at {s : Shaft} {n p : Nat} {x : Person} (h : s.persons[p]? = some x) : longP s n p = (levelIn x != 0 && decide ((x.since : Int) ≤ (s.time : Int) - (n : Int))) := by
  unfold longP
  rw [h]
def longL (s : Shaft) (n : Nat) : List Nat := (List.range s.persons.length).filter (longP s n)
theorem ask_long {s : Shaft} (g : Good s) (n : Nat) : askN s (.long n) = [(((longL s n).length : Nat) : Int), ((bits (longL s n) : Nat) : Int)] := by
  have e : (s.below.filter fun p => match s.persons[p]? with
    | some x => decide (n ≤ s.time - x.since)
    | none => false) = longL s n := by
    unfold Shaft.below longL
    rw [List.filter_filter]
    refine List.filter_congr fun p hp => ?_
    unfold longP
    cases q : s.persons[p]? with
    | none => rfl
    | some x =>
      have := g.sn x (List.mem_of_getElem? q)
      have e : decide (n ≤ s.time - x.since) = decide ((x.since : Int) ≤ (s.time : Int) - (n : Int)) := by
        by_cases c : n ≤ s.time - x.since
        · rw [decide_eq_true c, decide_eq_true (by omega)]
        · rw [decide_eq_false c, decide_eq_false (by omega)]
      show (decide (n ≤ s.time - x.since) && (levelIn x != 0)) = _
      rw [e, Bool.and_comm]
  rw [← e]
  rfl
/-! ### where the air is foul -/
def foulP (l : List Level) (j : Nat) : Bool := match l[j]? with
    | some u => decide (10000 < u.gas)
    | none => false
theorem foulP_at {l : List Level} {j : Nat} {u : Level} (h : l[j]? = some u) : foulP l j = decide (10000 < u.gas) := by
  unfold foulP
  rw [h]
def foulL (s : Shaft) : List Nat := (List.range s.levels.length).filter (foulP s.levels)
theorem ask_foul (s : Shaft) : askN s .foul = [(((foulL s).length : Nat) : Int), ((bits (foulL s) : Nat) : Int)] := rfl
theorem foul_eq (s : Shaft) (v : Level) (hv : v.gas ≤ 10000) : ((List.range (v :: s.levels).length).filter (foulP (v :: s.levels))) = (foulL s).map (· + 1) := by
  rw [List.length_cons, List.range_succ_eq_map, List.filter_cons]
  have h0 : foulP (v :: s.levels) 0 = false := decide_eq_false (by omega)
  rw [h0, if_neg (by decide), List.filter_map]
  rfl
end Ms
set_option Elab.async false
set_option linter.all false
set_option maxRecDepth 100000
set_option maxHeartbeats 4000000
namespace Ms
open PySem PySem.Spec PyProof.Rows L2
/-- a new list of these numbers is answered, all else stands as it was -/
def Told (H : Hp) (r : List Int) (Q : VK) : Prop := ∀ (H' : Hp) (p : Addr), Same H H' → H p = none → H' p = some (.lst (r.map V.int)) → Q (.ref p) H'
theorem Told.put {H H1 : Hp} {r : List Int} {Q : VK} (t : Told H r Q) (s : Same H H1) {l : Addr} (hl : H1 l = none) {xs : List V} (e : xs = r.map V.int) : Q (.ref l) (upd H1 l (.lst xs)) := by
  subst e
  exact t _ l (s.trans (Same.upd_new hl)) (s.free hl) upd_same
theorem Told.same {H H1 : Hp} {r : List Int} {Q : VK} (t : Told H r Q) (s : Same H H1) : Told H1 r Q := fun H' p s' hp h => t H' p (s.trans s') (s.free hp) h
def spAsk (C : Ad) (n : Nat) (c : List Nat → Km413.Call) : Sp := fun vs H Q _ => ∃ (a : Addr) (s : Shf) (ns : List Nat), vs = V.ref a :: ns.map vN ∧ ns.length = n ∧ Sh C H a s ∧ Told H (askN s (c ns)) Q
section
variable {P : Program} {w : World} {K : PySem.W.Frag} {mg : Str → Option Value} {base : Heap} {C : Ad} {f f1 f2 f3 : Addr} {fd fd1 fd2 fd3 : FuncData}
/-! ### as_bits, counted -/
def spBits (K : PySem.W.Frag) : Sp := fun vs H Q _ => ∃ (l : Addr) (ns : List Nat), vs = [.ref l] ∧ SqL K H l (ns.map vN) ∧ ns.length ≤ 1000 ∧ (∀ k ∈ ns, k ≤ 1000) ∧ ∀ H', Same H H' → Q (vN (Km413.bits ns)) H'
theorem sc_as_bits : FnScope ["numbers", "number"] ["numbers"] (defScope t_as_bits) := ⟨rfl, rfl, rfl, by decide +kernel, rfl, by decide +kernel, by decide +kernel⟩
theorem ok_as_bits (T : Txt K mg C) (D : Df K mg "as_bits" t_as_bits ["numbers"] f fd) : Kn P w K mg base 1 "as_bits" ["numbers"] (spBits K) f fd := by
  refine D.kn (D.fn.ok sc_as_bits (fun vs H Q E h => ?_) (fun cdv A outer s H vs Q E hr h => ?_))
  · obtain ⟨l, ns, rfl, _⟩ := h
    rfl
  · obtain ⟨l, ns, rfl, hl, h1, h2, hk⟩ := h
    refine ⟨_, pss_one (ps_ret (pe_callB (cr_sum rfl) (by rfl) T.bSum bootSum (pa_cons (pe_lc (own := [("number", 1)]) (te := tOp (rI CPow fun i j => .int (i * 2 ^ j.toNat)) (tC (.int 1)) (tVar 1)) rfl sc_as_bits.nd (pi_list (pv 0)) (blkOk_by rfl)
      (fun _ _ _ _ _ => pg_name (i := 1) sc_as_bits.nd rfl (Or.inl rfl)) (fun _ _ _ _ _ => pts_nil) (fun _ _ _ _ _ => pe_op op_shl pe_int (pv 1))) pa_nil))), ?_⟩
    refine ⟨_, rfl, l, rfl, ⟨_, hl⟩, fun Dd hD => ?_⟩
    refine lc_fm (K := K) (xs := ns.map vN) ns (fun _ => true) (fun k => V.int ((1 : Int) * 2 ^ (((k : Nat) : Int).toNat))) hl (by rw [List.length_map]) (lt_line h1) hD (fun x => rfl) ?_ ?_ ?_
    · intro j x y H1 k1 hx hy hs h3
      exact h3 _ (Same.refl _)
    · intro j x y H1 k1 hx hy _ hs h4
      rw [List.getElem?_map, hy] at hx
      cases hx
      have hb := h2 y (List.mem_of_getElem? hy)
      exact ⟨_, rfl, _, _, rfl, rfl, ⟨by omega, by omega, by decide⟩, h4 _ (Same.refl _)⟩
    · intro H1 hs hd
      have e : (ns.filter fun _ => true).map (fun k => V.int ((1 : Int) * 2 ^ (((k : Nat) : Int).toNat))) = (ns.map fun (k : Nat) => (1 : Int) * 2 ^ ((k : Int).toNat)).map V.int := by
        rw [List.filter_eq_self.mpr (fun _ _ => rfl), List.map_map]
        rfl
      rw [e] at hd
      refine ⟨Dd, _, rfl, SqL.of hd, ?_⟩
      rw [bits_int]
      exact hk H1 hs
def spCounted (K : PySem.W.Frag) : Sp := fun vs H Q _ => ∃ (l : Addr) (ns : List Nat), vs = [.ref l] ∧ SqL K H l (ns.map vN) ∧ ns.length ≤ 1000 ∧ (∀ k ∈ ns, k ≤ 1000) ∧ Told H [((ns.length : Nat) : Int), ((Km413.bits ns : Nat) : Int)] Q
theorem sc_counted : FnScope ["numbers"] ["numbers"] (defScope t_counted) := ⟨rfl, rfl, rfl, by decide +kernel, rfl, by decide +kernel, by decide +kernel⟩
theorem ok_counted (T : Txt K mg C) (D : Df K mg "counted" t_counted ["numbers"] f fd) (G : Kn P w K mg base 1 "as_bits" ["numbers"] (spBits K) f1 fd1) : Kn P w K mg base 2 "counted" ["numbers"] (spCounted K) f fd := by
  refine D.kn (D.fn.ok sc_counted (fun vs H Q E h => ?_) (fun cdv A outer s H vs Q E hr h => ?_))
  · obtain ⟨l, ns, rfl, _⟩ := h
    rfl
  · obtain ⟨l, ns, rfl, hl, h1, h2, hk⟩ := h
    refine ⟨_, pss_one (ps_ret (pe_lst (pa_cons (pe_callB call_len_seq (by rfl) T.bLen bootLen (pa_cons (pv 0) pa_nil)) (pa_cons (pe_fn G hr (pa_cons (pv 0) pa_nil)) pa_nil)))), ?_⟩
    refine ⟨_, rfl, l, _, rfl, .inl hl, _, rfl, l, ns, rfl, hl, h1, h2, fun H1 s1 => ⟨(by show 2 ≤ sizeLine; decide), fun p hp => ?_⟩⟩
    refine hk.put s1 hp ?_
    rw [List.length_map]
    rfl
/-! ### sh_where -/
theorem ask_where_none {s : Shf} {p : Nat} (h : s.persons[p]? = none) : askN s (.where_ p) = [-2] := by
  unfold askN Km413.act
  dsimp only
  rw [h]
  rfl
theorem ask_where {s : Shf} {p : Nat} {x : Per} (h : s.persons[p]? = some x) : askN s (.where_ p) = [((pl x : Nat) : Int), ((x.since : Nat) : Int)] := by
  unfold askN Km413.act pl
  dsimp only
  rw [h]
  dsimp only
  cases x.place <;> rfl
theorem sc_sh_where : FnScope ["shaft", "number", "person"] ["shaft", "number"] (defScope t_sh_where) := ⟨rfl, rfl, rfl, by decide +kernel, rfl, by decide +kernel, by decide +kernel⟩
theorem ok_sh_where (T : Txt K mg C) (D : Df K mg "sh_where" t_sh_where ["shaft", "number"] f fd) : Kn P w K mg base 1 "sh_where" ["shaft", "number"] (spAsk C 1 fun ns => .where_ (ns.getD 0 0)) f fd := by
  refine D.kn (D.fn.ok sc_sh_where (fun vs H Q E h => ?_) (fun cdv A outer s H vs Q E hr h => ?_))
  · obtain ⟨a, s, ns, rfl, hl, _⟩ := h
    simp [hl]
  · obtain ⟨a, s, ns, rfl, hl, ⟨g, o, S⟩, hk⟩ := h
    obtain ⟨p, rfl⟩ := len1 hl
    have hk : Told H (askN s (.where_ p)) Q := hk
    refine ⟨_, pss_cons (ps_if (pt_cmpR op_ge (pv 1) (pe_callB call_len_seq (by rfl) T.bLen bootLen (pa_cons (pe_fld (pv 0) rfl) pa_nil)) (nomark _)) (pss_one (ps_ret (pe_lst (pa_cons (pe_cst T.kMISSING rfl) pa_nil)))) pss_nil)
      (pss_cons (ps_set (i := 2) sc_sh_where.nd rfl (Or.inl rfl) (pe_ix ix_list (pe_fld (pv 0) rfl) (pv 1) (fun _ _ => rfl)))
      (pss_one (ps_ret (pe_lst (pa_cons (pe_fld (pv 2) rfl) (pa_cons (pe_fld (pv 2) rfl) pa_nil)))))), ?_⟩
    refine ⟨_, rfl, _, rfl, a, C.S, o.dx, _, _, rfl, S.me, T.cS, T.nPersons, rfl, o.pa, _, rfl, .inl (SqL.of S.pa), _, _, rfl, rfl, _, rfl, ite2 (fun h => ?_) (fun h1 => ?_)⟩
    · have h := dT h
      rw [List.length_map, S.ps.len] at h
      rw [ask_where_none (nth_none (by omega))] at hk
      exact ⟨(by show 1 ≤ sizeLine; decide), fun l hl => hk.put (Same.refl _) hl rfl⟩
    have h1 := dF h1
    rw [List.length_map, S.ps.len] at h1
    obtain ⟨x, hx⟩ := nth_some (l := s.persons) (n := p) (by omega)
    obtain ⟨y, dy, e1, e2, he⟩ := per_at S hx
    refine ⟨_, rfl, a, C.S, o.dx, _, _, rfl, S.me, T.cS, T.nPersons, rfl, _, rfl, o.pa, _, _, _, rfl, rfl, SqL.of S.pa, atI_nat e1, ?_⟩
    rw [ask_where hx] at hk
    exact ⟨_, rfl, y, C.P, dy, _, _, rfl, he, T.cP, T.nPlace, rfl, _, rfl, y, C.P, dy, _, _, rfl, he, T.cP, T.nSince, rfl, (by show 2 ≤ sizeLine; decide), fun l hl => hk.put (Same.refl _) hl rfl⟩
/-! ### sh_below -/
theorem filt_le {n : Nat} {P : Nat → Bool} (h : n ≤ 1000) : ((List.range n).filter P).length ≤ 1000 ∧ ∀ k ∈ (List.range n).filter P, k ≤ 1000 := by
  constructor
  · have := List.length_filter_le P (List.range n)
    rw [List.length_range] at this
    omega
  · intro k hk
    have := List.mem_range.mp (List.mem_filter.mp hk).1
    omega
theorem sc_sh_below : FnScope ["shaft", "number", "person"] ["shaft"] (defScope t_sh_below) := ⟨rfl, rfl, rfl, by decide +kernel, rfl, by decide +kernel, by decide +kernel⟩
theorem ok_sh_below (T : Txt K mg C) (D : Df K mg "sh_below" t_sh_below ["shaft"] f fd) (GC : Kn P w K mg base 2 "counted" ["numbers"] (spCounted K) f1 fd1) (GB : Kn P w K mg base 1 "is_below" ["person"] (spIsBelow C) f2 fd2) :
    Kn P w K mg base 3 "sh_below" ["shaft"] (spAsk C 0 fun _ => .below) f fd := by
  refine D.kn (D.fn.ok sc_sh_below (fun vs H Q E h => ?_) (fun cdv A outer s H vs Q E hr h => ?_))
  · obtain ⟨a, s, ns, rfl, hl, _⟩ := h
    simp [hl]
  · obtain ⟨a, s, ns, rfl, hl, ⟨g, o, S⟩, hk⟩ := h
    obtain rfl := len0 hl
    have hk : Told H [((s.below.length : Nat) : Int), ((Km413.bits s.below : Nat) : Int)] Q := hk
    refine ⟨_, pss_one (ps_ret (pe_fn GC hr (pa_cons (pe_lc (own := [("number", 1), ("person", 2)]) (g := gTwo K 1 2) (te := tVar 1) rfl sc_sh_below.nd (pi_enum (by rfl) T.bEnumerate (pa_cons (pe_fld (pv 0) rfl) pa_nil)) (blkOk_by rfl)
      (fun _ _ _ _ _ => pg_tup rfl (pgs_cons (pg_name (i := 1) sc_sh_below.nd rfl (Or.inl rfl)) (pgs_cons (pg_name (i := 2) sc_sh_below.nd rfl (Or.inl rfl)) pgs_nil))) (fun _ _ _ _ _ => pts_one (pt_val (pe_fn GB hr (pa_cons (pv 2) pa_nil)))) (fun _ _ _ _ _ => pv 1)) pa_nil))), ?_⟩
    refine ⟨_, rfl, a, C.S, o.dx, _, _, rfl, S.me, T.cS, T.nPersons, rfl, o.pa, _, rfl, SqL.of S.pa, fun Dd hD => ?_⟩
    have n24 : s.persons.length ≤ 1000 := Nat.le_trans g.ps (by decide)
    refine lc_en (K := K) (xs := o.ps.map V.ref) s.persons (fun p => match s.persons[p]? with | some x => Km413.levelIn x != 0 | none => false) vN (SqL.of S.pa) (by rw [List.length_map, S.ps.len]) (lt_line n24) hD (fun x y => rfl) ?_ ?_ ?_
    · intro j x y H1 k1 hx hy hs h3
      rw [List.getElem?_map] at hx
      obtain ⟨p, hp, rfl⟩ := Option.map_eq_some_iff.mp hx
      obtain ⟨dx, he⟩ := S.ps.at_ j _ _ hp hy
      have h3 := h3 H1 (Same.refl _)
      simp only [hy] at h3
      exact ⟨_, rfl, p, y, rfl, ⟨dx, hs _ _ he⟩, g.wh5 y (List.mem_of_getElem? hy), _, rfl, h3⟩
    · intro j x y H1 k1 hx hy _ hs h4
      exact ⟨_, rfl, h4 _ (Same.refl _)⟩
    · intro H1 hs hd
      exact ⟨Dd, s.below, rfl, SqL.of hd, (filt_le n24).1, (filt_le n24).2, hk.same hs⟩
/-! ### sh_who -/
theorem sc_sh_who : FnScope ["shaft", "number"] ["shaft", "number"] (defScope t_sh_who) := ⟨rfl, rfl, rfl, by decide +kernel, rfl, by decide +kernel, by decide +kernel⟩
theorem ok_sh_who (T : Txt K mg C) (D : Df K mg "sh_who" t_sh_who ["shaft", "number"] f fd) (GC : Kn P w K mg base 2 "counted" ["numbers"] (spCounted K) f1 fd1) (GP : Kn P w K mg base 1 "persons_at" ["shaft", "place"] (spAt C) f2 fd2) :
    Kn P w K mg base 3 "sh_who" ["shaft", "number"] (spAsk C 1 fun ns => .who (ns.getD 0 0)) f fd := by
  refine D.kn (D.fn.ok sc_sh_who (fun vs H Q E h => ?_) (fun cdv A outer s H vs Q E hr h => ?_))
  · obtain ⟨a, s, ns, rfl, hl, _⟩ := h
    simp [hl]
  · obtain ⟨a, s, ns, rfl, hl, ⟨g, o, S⟩, hk⟩ := h
    obtain ⟨l, rfl⟩ := len1 hl
    have hk : Told H (Km413Neutral.told (if s.levels.length < l then Km413.only (-2) else ⟨(((s.onLevel l).length : Nat) : Int), [Km413.bits (s.onLevel l)]⟩)) Q := hk
    have hlen := S.lv.len
    rw [List.length_cons] at hlen
    refine ⟨_, pss_cons (ps_if (pt_cmpR op_ge (pv 1) (pe_callB call_len_seq (by rfl) T.bLen bootLen (pa_cons (pe_fld (pv 0) rfl) pa_nil)) (nomark _)) (pss_one (ps_ret (pe_lst (pa_cons (pe_cst T.kMISSING rfl) pa_nil)))) pss_nil)
      (pss_one (ps_ret (pe_fn GC hr (pa_cons (pe_fn GP hr (pa_cons (pv 0) (pa_cons (pv 1) pa_nil))) pa_nil)))), ?_⟩
    refine ⟨_, rfl, _, rfl, a, C.S, o.dx, _, _, rfl, S.me, T.cS, T.nLevels, rfl, o.la, _, rfl, .inl (SqL.of S.la), _, _, rfl, rfl, _, rfl, ite2 (fun h => ?_) (fun h1 => ?_)⟩
    · have h := dT h
      rw [List.length_map, hlen] at h
      rw [if_pos (by omega)] at hk
      exact ⟨(by show 1 ≤ sizeLine; decide), fun l hl => hk.put (Same.refl _) hl rfl⟩
    have h1 := dF h1
    rw [List.length_map, hlen] at h1
    rw [if_neg (by omega)] at hk
    have n24 : s.persons.length ≤ 1000 := Nat.le_trans g.ps (by decide)
    have lv := g.lv
    refine ⟨_, rfl, _, rfl, a, s, l, rfl, ⟨g, o, S⟩, fun H1 q s1 _ h1 => ⟨q, atL s l, rfl, SqL.of h1, (filt_le n24).1, (filt_le n24).2, ?_⟩⟩
    rw [atL_at g (by omega)]
    exact hk.same s1
/-! ### sh_cage -/
theorem sc_sh_cage : FnScope ["shaft"] ["shaft"] (defScope t_sh_cage) := ⟨rfl, rfl, rfl, by decide +kernel, rfl, by decide +kernel, by decide +kernel⟩
theorem ok_sh_cage (T : Txt K mg C) (D : Df K mg "sh_cage" t_sh_cage ["shaft"] f fd) (GB : Kn P w K mg base 1 "as_bits" ["numbers"] (spBits K) f1 fd1) (GP : Kn P w K mg base 1 "persons_at" ["shaft", "place"] (spAt C) f2 fd2)
    (GR : Kn P w K mg base 3 "on_the_rope" ["shaft"] (spOnRope C) f3 fd3) : Kn P w K mg base 4 "sh_cage" ["shaft"] (spAsk C 0 fun _ => .cage) f fd := by
  refine D.kn (D.fn.ok sc_sh_cage (fun vs H Q E h => ?_) (fun cdv A outer s H vs Q E hr h => ?_))
  · obtain ⟨a, s, ns, rfl, hl, _⟩ := h
    simp [hl]
  · obtain ⟨a, s, ns, rfl, hl, Sx, hk⟩ := h
    obtain rfl := len0 hl
    have hk : Told H [((s.at_ : Nat) : Int), ((Km413.bits s.aboard : Nat) : Int), ((s.tub : Nat) : Int), ((s.load : Nat) : Int)] Q := hk
    have g := Sx.good
    obtain ⟨o, S⟩ := Sx.at_
    refine ⟨_, pss_one (ps_ret (pe_lst (pa_cons (pe_fld (pv 0) rfl) (pa_cons (pe_fn GB hr (pa_cons (pe_fn GP hr (pa_cons (pv 0) (pa_cons (pe_cst T.kIN_CAGE rfl) pa_nil))) pa_nil)) (pa_cons (pe_fld (pv 0) rfl) (pa_cons (pe_fn GR hr (pa_cons (pv 0) pa_nil)) pa_nil)))))), ?_⟩
    have n24 : s.persons.length ≤ 1000 := Nat.le_trans g.ps (by decide)
    refine ⟨_, rfl, a, C.S, o.dx, _, _, rfl, S.me, T.cS, T.nCage, rfl, _, rfl, a, s, 9, rfl, Sx, fun H1 q s1 _ h1 => ⟨q, atL s 9, rfl, SqL.of h1, (filt_le n24).1, (filt_le n24).2, fun H2 s2 => ?_⟩⟩
    have s12 := s1.trans s2
    refine ⟨_, rfl, a, C.S, o.dx, _, _, rfl, s12 _ _ S.me, T.cS, T.nTub, rfl, _, rfl, a, s, rfl, Sx.same s12, fun H3 s3 => ⟨(by show 4 ≤ sizeLine; decide), fun p hp => ?_⟩⟩
    refine hk.put (s12.trans s3) hp ?_
    rw [atL_cage g]
    rfl
end
end Ms
set_option Elab.async false
set_option linter.all false
set_option maxRecDepth 100000
set_option maxHeartbeats 4000000
namespace Ms
open PySem PySem.Spec PyProof.Rows L2
section
variable {P : Program} {w : World} {K : PySem.W.Frag} {mg : Str → Option Value} {base : Heap} {C : Ad} {f f1 f2 f3 : Addr} {fd fd1 fd2 fd3 : FuncData}
/-! ### sh_need -/
theorem sc_sh_need : FnScope ["shaft", "times_up"] ["shaft"] (defScope t_sh_need) := ⟨rfl, rfl, rfl, by decide +kernel, rfl, by decide +kernel, by decide +kernel⟩
theorem ok_sh_need (T : Txt K mg C) (D : Df K mg "sh_need" t_sh_need ["shaft"] f fd) (GG : Kn P w K mg base 4 "groups_to_fetch" ["shaft"] (spGroups C) f1 fd1) (GN : Kn P w K mg base 5 "needed" ["shaft"] (spNeeded C) f2 fd2) :
    Kn P w K mg base 6 "sh_need" ["shaft"] (spAsk C 0 fun _ => .need) f fd := by
  refine D.kn (D.fn.ok sc_sh_need (fun vs H Q E h => ?_) (fun cdv A outer s H vs Q E hr h => ?_))
  · obtain ⟨a, s, ns, rfl, hl, _⟩ := h
    simp [hl]
  · obtain ⟨a, s, ns, rfl, hl, Sx, hk⟩ := h
    obtain rfl := len0 hl
    have hk : Told H [((s.ascents : Nat) : Int), ((s.need : Nat) : Int), ((s.worn : Nat) : Int), ((s.rope : Nat) : Int)] Q := hk
    have g := Sx.good
    obtain ⟨o, S⟩ := Sx.at_
    refine ⟨_, pss_cons (ps_set (i := 1) sc_sh_need.nd rfl (Or.inl rfl) (pe_callB call_len_seq (by rfl) T.bLen bootLen (pa_cons (pe_fn GG hr (pa_cons (pv 0) pa_nil)) pa_nil)))
      (pss_cons (ps_if (pt_cmpR op_gt (pe_fld (pv 0) rfl) pe_int (nomark _)) (pss_one (ps_aug (i := 1) sc_sh_need.nd rfl (Or.inl rfl) pe_int ip_add)) pss_nil)
      (pss_one (ps_ret (pe_lst (pa_cons (pv 1) (pa_cons (pe_fn GN hr (pa_cons (pv 0) pa_nil)) (pa_cons (pe_fld (pv 0) rfl) (pa_cons (pe_fld (pv 0) rfl) pa_nil)))))))), ?_⟩
    refine ⟨_, rfl, a, s, rfl, Sx, fun H1 q qs s1 hq al => ⟨q, _, rfl, .inl (SqL.of hq), ?_⟩⟩
    have el : (((qs.map V.ref).length : Nat) : Int) = (((grp s).length : Nat) : Int) := by rw [List.length_map, al.len]
    refine ⟨_, rfl, a, C.S, o.dx, _, _, rfl, s1 _ _ S.me, T.cS, T.nCage, rfl, _, _, rfl, rfl, _, rfl, ite2 (fun h => ?_) (fun h => ?_)⟩
    · have h : (0 : Int) < ((s.at_ : Nat) : Int) := dT h
      refine ⟨_, rfl, _, _, rfl, rfl, ?_⟩
      refine ⟨_, rfl, _, rfl, a, s, rfl, Sx.same s1, fun H2 s2 => ?_⟩
      have s12 := s1.trans s2
      refine ⟨_, rfl, a, C.S, o.dx, _, _, rfl, s12 _ _ S.me, T.cS, T.nWorn, rfl, _, rfl, a, C.S, o.dx, _, _, rfl, s12 _ _ S.me, T.cS, T.nRope, rfl, (by show 4 ≤ sizeLine; decide), fun p hp => hk.put s12 hp ?_⟩
      have e : (((qs.map V.ref).length : Nat) : Int) + 1 = ((s.ascents : Nat) : Int) := by
        rw [el, ascents_eq g, if_neg (by omega)]
        omega
      show [V.int ((((qs.map V.ref).length : Nat) : Int) + 1), vN s.need, vN s.worn, vN s.rope] = _
      rw [e]
      rfl
    · have h : ¬ (0 : Int) < ((s.at_ : Nat) : Int) := dF h
      refine ⟨_, rfl, _, rfl, a, s, rfl, Sx.same s1, fun H2 s2 => ?_⟩
      have s12 := s1.trans s2
      refine ⟨_, rfl, a, C.S, o.dx, _, _, rfl, s12 _ _ S.me, T.cS, T.nWorn, rfl, _, rfl, a, C.S, o.dx, _, _, rfl, s12 _ _ S.me, T.cS, T.nRope, rfl, (by show 4 ≤ sizeLine; decide), fun p hp => hk.put s12 hp ?_⟩
      have e : (((qs.map V.ref).length : Nat) : Int) = ((s.ascents : Nat) : Int) := by
        rw [el, ascents_eq g, if_pos (by omega)]
        omega
      rw [e]
      rfl
/-! ### the next step -/
def spStep (C : Ad) (c : Shf → Prop) : Sp := fun vs H Q _ => ∃ (a : Addr) (s : Shf), vs = [.ref a] ∧ Sh C H a s ∧ c s ∧ (s.next = .none → ∀ H', Same H H' → Q .non H') ∧ (s.next ≠ .none → Told H (Km413Neutral.told (Km413.moveOut s.next)) Q)
theorem sc_above : FnScope ["shaft", "inside", "below"] ["shaft"] (defScope t_step_above_ground) := ⟨rfl, rfl, rfl, by decide +kernel, rfl, by decide +kernel, by decide +kernel⟩
theorem ok_above (T : Txt K mg C) (D : Df K mg "step_above_ground" t_step_above_ground ["shaft"] f fd) (GP : Kn P w K mg base 1 "persons_at" ["shaft", "place"] (spAt C) f1 fd1) (GL : Kn P w K mg base 2 "levels_of_those_below" ["shaft"] (spLevs C) f2 fd2) :
    Kn P w K mg base 3 "step_above_ground" ["shaft"] (spStep C fun s => s.at_ = 0) f fd := by
  refine D.kn (D.fn.ok sc_above (fun vs H Q E h => ?_) (fun cdv A outer s H vs Q E hr h => ?_))
  · obtain ⟨a, s, rfl, _⟩ := h
    rfl
  · obtain ⟨a, s, rfl, Sx, h0, kn, ks⟩ := h
    have h0 : s.at_ = 0 := h0
    have g := Sx.good
    obtain ⟨o, S⟩ := Sx.at_
    refine ⟨_, pss_cons (ps_set (i := 1) sc_above.nd rfl (Or.inl rfl) (pe_fn GP hr (pa_cons (pv 0) (pa_cons (pe_cst T.kIN_CAGE rfl) pa_nil))))
      (pss_cons (ps_if (pt_cmpR op_gt (pe_callB call_len_seq (by rfl) T.bLen bootLen (pa_cons (pv 1) pa_nil)) pe_int (nomark _)) (pss_one (ps_ret (pe_lst (pa_cons (pe_cst T.kLEAVES rfl) (pa_cons (pe_ix ix_list (pv 1) pe_int (fun _ _ => rfl)) pa_nil))))) pss_nil)
      (pss_cons (ps_if (pt_cmpR op_gt (pe_fld (pv 0) rfl) pe_int (nomark _)) (pss_one (ps_ret (pe_lst (pa_cons (pe_cst T.kIS_DUMPED rfl) (pa_cons pe_int pa_nil))))) pss_nil)
      (pss_cons (ps_set (i := 2) sc_above.nd rfl (Or.inl rfl) (pe_fn GL hr (pa_cons (pv 0) pa_nil)))
      (pss_cons (ps_if (pt_cmpR op_gt (pe_callB call_len_seq (by rfl) T.bLen bootLen (pa_cons (pv 2) pa_nil)) pe_int (nomark _)) (pss_one (ps_ret (pe_lst (pa_cons (pe_cst T.kIS_WOUND rfl) (pa_cons (pe_ix ix_list (pv 2) pe_int (fun _ _ => rfl)) pa_nil))))) pss_nil)
      (pss_one (ps_ret pe_non)))))), ?_⟩
    refine ⟨_, rfl, a, s, 9, rfl, Sx, fun H1 q s1 _ h1 => ?_⟩
    rw [atL_cage g] at h1
    refine ⟨_, rfl, q, _, rfl, .inl (SqL.of h1), _, _, rfl, rfl, _, rfl, ite2 (fun h => ?_) (fun h => ?_)⟩
    · have h : (0 : Int) < (((s.aboard.map vN).length : Nat) : Int) := dT h
      rw [List.length_map] at h
      cases e : s.aboard with
      | nil => rw [e] at h; exact absurd h (by decide)
      | cons p r =>
        rw [e] at h1
        have en := next_leave h0 e
        rw [en] at ks
        exact ⟨_, rfl, q, _, 0, _, rfl, rfl, SqL.of h1, atI_nat (j := 0) rfl, (by show 2 ≤ sizeLine; decide), fun l hl => (ks (by intro z; cases z)).put s1 hl rfl⟩
    have h : ¬ (0 : Int) < (((s.aboard.map vN).length : Nat) : Int) := dF h
    rw [List.length_map] at h
    have ea : s.aboard = [] := List.length_eq_zero_iff.mp (by omega)
    refine ⟨_, rfl, a, C.S, o.dx, _, _, rfl, s1 _ _ S.me, T.cS, T.nTub, rfl, _, _, rfl, rfl, _, rfl, ite2 (fun ht => ?_) (fun ht => ?_)⟩
    · have ht : (0 : Int) < ((s.tub : Nat) : Int) := dT ht
      have en := next_dump h0 ea (by omega)
      rw [en] at ks
      exact ⟨(by show 2 ≤ sizeLine; decide), fun l hl => (ks (by intro z; cases z)).put s1 hl rfl⟩
    have ht : ¬ (0 : Int) < ((s.tub : Nat) : Int) := dF ht
    refine ⟨_, rfl, a, s, rfl, Sx.same s1, fun H2 b s2 h2 => ?_⟩
    refine ⟨_, rfl, b, _, rfl, .inl (SqL.of h2), _, _, rfl, rfl, _, rfl, ite2 (fun hb => ?_) (fun hb => ?_)⟩
    · have hb : (0 : Int) < ((((bls s).map vN).length : Nat) : Int) := dT hb
      rw [List.length_map] at hb
      cases e : bls s with
      | nil => rw [e] at hb; exact absurd hb (by decide)
      | cons l r =>
        rw [e] at h2
        have en := next_down g h0 ea (by omega) e
        rw [en] at ks
        exact ⟨_, rfl, b, _, 0, _, rfl, rfl, SqL.of h2, atI_nat (j := 0) rfl, (by show 2 ≤ sizeLine; decide), fun l hl => (ks (by intro z; cases z)).put (s1.trans s2) hl rfl⟩
    have hb : ¬ (0 : Int) < ((((bls s).map vN).length : Nat) : Int) := dF hb
    rw [List.length_map] at hb
    have eb : bls s = [] := List.length_eq_zero_iff.mp (by omega)
    exact kn (next_none g h0 ea (by omega) eb) H2 (s1.trans s2)
theorem sc_under : FnScope ["shaft", "taken"] ["shaft"] (defScope t_step_below_ground) := ⟨rfl, rfl, rfl, by decide +kernel, rfl, by decide +kernel, by decide +kernel⟩
theorem ok_under (T : Txt K mg C) (D : Df K mg "step_below_ground" t_step_below_ground ["shaft"] f fd) (GP : Kn P w K mg base 1 "persons_at" ["shaft", "place"] (spAt C) f1 fd1) (GT : Kn P w K mg base 3 "taken_along" ["shaft"] (spTaken C) f2 fd2) :
    Kn P w K mg base 4 "step_below_ground" ["shaft"] (spStep C fun s => s.at_ ≠ 0) f fd := by
  refine D.kn (D.fn.ok sc_under (fun vs H Q E h => ?_) (fun cdv A outer s H vs Q E hr h => ?_))
  · obtain ⟨a, s, rfl, _⟩ := h
    rfl
  · obtain ⟨a, s, rfl, Sx, h0, kn, ks⟩ := h
    have h0 : s.at_ ≠ 0 := h0
    have g := Sx.good
    obtain ⟨o, S⟩ := Sx.at_
    refine ⟨_, pss_cons (ps_set (i := 1) sc_under.nd rfl (Or.inl rfl) (pe_fn GT hr (pa_cons (pv 0) pa_nil)))
      (pss_cons (ps_if (pt_cmpR op_eq (pe_callB call_len_seq (by rfl) T.bLen bootLen (pa_cons (pv 1) pa_nil)) pe_int (nomark _)) (pss_one (ps_ret (pe_lst (pa_cons (pe_cst T.kIS_WOUND rfl) (pa_cons pe_int pa_nil))))) pss_nil)
      (pss_cons (ps_if (pt_cmpR op_eq (pe_ix ix_list (pv 1) pe_int (fun _ _ => rfl)) (pe_fld (pv 0) rfl) (nomark _)) (pss_one (ps_ret (pe_lst (pa_cons (pe_cst T.kBOARDS rfl) (pa_cons (pe_ix ix_list (pe_fn GP hr (pa_cons (pv 0) (pa_cons (pe_fld (pv 0) rfl) pa_nil))) pe_int (fun _ _ => rfl)) pa_nil))))) pss_nil)
      (pss_one (ps_ret (pe_lst (pa_cons (pe_cst T.kIS_WOUND rfl) (pa_cons (pe_ix ix_list (pv 1) pe_int (fun _ _ => rfl)) pa_nil))))))), ?_⟩
    refine ⟨_, rfl, a, s, rfl, Sx, fun H1 t s1 h1 => ?_⟩
    refine ⟨_, rfl, t, _, rfl, .inl (SqL.of h1), rfl, _, rfl, ite2 (fun h => ?_) (fun h => ?_)⟩
    · have h : ((((takenL s).map vN).length : Nat) : Int) = 0 := vInj (dT h)
      rw [List.length_map] at h
      have et : takenL s = [] := List.length_eq_zero_iff.mp (by omega)
      have en := next_up g h0 et
      rw [en] at ks
      exact ⟨(by show 2 ≤ sizeLine; decide), fun l hl => (ks (by intro z; cases z)).put s1 hl rfl⟩
    cases et : takenL s with
    | nil =>
      rw [et] at h
      exact absurd (decide_eq_true rfl) h
    | cons l r =>
      rw [et] at h1
      refine ⟨_, rfl, t, _, 0, _, rfl, rfl, SqL.of h1, atI_nat (j := 0) rfl, _, rfl, a, C.S, o.dx, _, _, rfl, s1 _ _ S.me, T.cS, T.nCage, rfl, rfl, _, rfl, ite2 (fun hc => ?_) (fun hc => ?_)⟩
      · have hc : ((l : Nat) : Int) = ((s.at_ : Nat) : Int) := vInj (dT hc)
        obtain ⟨p, q, ep, en⟩ := next_board g h0 et (by omega)
        rw [en] at ks
        refine ⟨_, rfl, _, rfl, a, C.S, o.dx, _, _, rfl, s1 _ _ S.me, T.cS, T.nCage, rfl, a, s, s.at_, rfl, Sx.same s1, fun H2 u s2 _ h2 => ?_⟩
        rw [atL_at g (Nat.le_trans g.at_ g.lv), ep] at h2
        exact ⟨u, _, 0, _, rfl, rfl, SqL.of h2, atI_nat (j := 0) rfl, (by show 2 ≤ sizeLine; decide), fun l hl => (ks (by intro z; cases z)).put (s1.trans s2) hl rfl⟩
      · have hc : l ≠ s.at_ := fun z => dF hc (congrArg V.int (by omega))
        have en := next_fetch g h0 et hc
        rw [en] at ks
        exact ⟨_, rfl, t, _, 0, _, rfl, rfl, SqL.of h1, atI_nat (j := 0) rfl, (by show 2 ≤ sizeLine; decide), fun l hl => (ks (by intro z; cases z)).put s1 hl rfl⟩
theorem sc_next : FnScope ["shaft"] ["shaft"] (defScope t_next_step) := ⟨rfl, rfl, rfl, by decide +kernel, rfl, by decide +kernel, by decide +kernel⟩
theorem ok_next (T : Txt K mg C) (D : Df K mg "next_step" t_next_step ["shaft"] f fd) (GA : Kn P w K mg base 3 "step_above_ground" ["shaft"] (spStep C fun s => s.at_ = 0) f1 fd1) (GU : Kn P w K mg base 4 "step_below_ground" ["shaft"] (spStep C fun s => s.at_ ≠ 0) f2 fd2) :
    Kn P w K mg base 5 "next_step" ["shaft"] (spStep C fun _ => True) f fd := by
  refine D.kn (D.fn.ok sc_next (fun vs H Q E h => ?_) (fun cdv A outer s H vs Q E hr h => ?_))
  · obtain ⟨a, s, rfl, _⟩ := h
    rfl
  · obtain ⟨a, s, rfl, Sx, _, kn, ks⟩ := h
    obtain ⟨o, S⟩ := Sx.at_
    refine ⟨_, pss_cons (ps_if (pt_cmpR op_eq (pe_fld (pv 0) rfl) pe_int (nomark _)) (pss_one (ps_ret (pe_fn GA hr (pa_cons (pv 0) pa_nil)))) pss_nil) (pss_one (ps_ret (pe_fn GU hr (pa_cons (pv 0) pa_nil)))), ?_⟩
    refine ⟨_, rfl, a, C.S, o.dx, _, _, rfl, S.me, T.cS, T.nCage, rfl, rfl, _, rfl, ite2 (fun h => ?_) (fun h => ?_)⟩
    · have h : ((s.at_ : Nat) : Int) = 0 := vInj (dT h)
      exact ⟨_, rfl, a, s, rfl, Sx, by omega, kn, ks⟩
    · have h : s.at_ ≠ 0 := fun z => dF h (congrArg V.int (show ((s.at_ : Nat) : Int) = 0 by omega))
      exact ⟨_, rfl, a, s, rfl, Sx, h, kn, ks⟩
theorem sc_sh_next : FnScope ["shaft", "step"] ["shaft"] (defScope t_sh_next) := ⟨rfl, rfl, rfl, by decide +kernel, rfl, by decide +kernel, by decide +kernel⟩
theorem ok_sh_next (T : Txt K mg C) (D : Df K mg "sh_next" t_sh_next ["shaft"] f fd) (GN : Kn P w K mg base 5 "next_step" ["shaft"] (spStep C fun _ => True) f1 fd1) : Kn P w K mg base 6 "sh_next" ["shaft"] (spAsk C 0 fun _ => .next) f fd := by
  refine D.kn (D.fn.ok sc_sh_next (fun vs H Q E h => ?_) (fun cdv A outer s H vs Q E hr h => ?_))
  · obtain ⟨a, s, ns, rfl, hl, _⟩ := h
    simp [hl]
  · obtain ⟨a, s, ns, rfl, hl, Sx, hk⟩ := h
    obtain rfl := len0 hl
    have hk : Told H (Km413Neutral.told (Km413.moveOut s.next)) Q := hk
    refine ⟨_, pss_cons (ps_set (i := 1) sc_sh_next.nd rfl (Or.inl rfl) (pe_fn GN hr (pa_cons (pv 0) pa_nil))) (pss_cons (ps_if (pt_cmp (pc_isN (pv 1))) (pss_one (ps_ret (pe_lst (pa_cons (pe_cst T.kNOTHING rfl) pa_nil)))) pss_nil) (pss_one (ps_ret (pv 1)))), ?_⟩
    refine ⟨_, rfl, a, s, rfl, Sx, trivial, fun hn H1 s1 => ?_, fun hn H1 p s1 hp h1 => ?_⟩
    · rw [hn] at hk
      exact ⟨_, rfl, _, rfl, ite2 (fun _ => ⟨(by show 1 ≤ sizeLine; decide), fun l hl => hk.put s1 hl rfl⟩) (fun z => absurd (decide_eq_true rfl) z)⟩
    · exact ⟨_, rfl, _, rfl, ite2 (fun z => absurd (of_decide_eq_true z) (by intro y; cases y)) (fun _ => ⟨_, rfl, hk H1 p s1 hp h1⟩)⟩
end
end Ms
set_option Elab.async false
set_option linter.all false
set_option maxRecDepth 100000
set_option maxHeartbeats 4000000
namespace Ms
open PySem PySem.Spec PyProof.Rows L2
section
variable {P : Program} {w : World} {K : PySem.W.Frag} {mg : Str → Option Value} {base : Heap} {C : Ad} {f f1 f2 f3 : Addr} {fd fd1 fd2 fd3 : FuncData}
/-! ### sh_gas -/
def spWarn (C : Ad) : Sp := fun vs H Q _ => ∃ (a : Addr) (v : Lev), vs = [.ref a] ∧ LvAt C H a v ∧ v.rate ≤ 2000 ∧ Q (vN (warn v)) H
theorem sc_warn : FnScope ["level", "gain", "minutes"] ["level"] (defScope t_warning_of) := ⟨rfl, rfl, rfl, by decide +kernel, rfl, by decide +kernel, by decide +kernel⟩
theorem mins_int {v : Lev} (h : v.gas ≤ 10000) (hg : cl v < v.rate) : ((10000 : Int) - ((v.gas : Nat) : Int)) / ((v.rate : Int) - (cl v : Int)) + 1 = (((10000 - v.gas) / (v.rate - cl v) + 1 : Nat) : Int) := by
  have e1 : (10000 : Int) - ((v.gas : Nat) : Int) = ((10000 - v.gas : Nat) : Int) := by omega
  have e2 : (v.rate : Int) - (cl v : Int) = ((v.rate - cl v : Nat) : Int) := by omega
  rw [e1, e2, Int.natCast_add, Int.natCast_ediv]
  rfl
theorem ok_warn (T : Txt K mg C) (D : Df K mg "warning_of" t_warning_of ["level"] f fd) (GF : Kn P w K mg base 1 "is_foul" ["level"] (spIsFoul C) f1 fd1) (GG : Kn P w K mg base 1 "gain_in_a_minute" ["level"] (spGain C) f2 fd2) :
    Kn P w K mg base 2 "warning_of" ["level"] (spWarn C) f fd := by
  refine D.kn (D.fn.ok sc_warn (fun vs H Q E h => ?_) (fun cdv A outer s H vs Q E hr h => ?_))
  · obtain ⟨a, v, rfl, _⟩ := h
    rfl
  · obtain ⟨a, v, rfl, ⟨dx, hx⟩, hr2, hk⟩ := h
    refine ⟨_, pss_cons (ps_if (pt_val (pe_fn GF hr (pa_cons (pv 0) pa_nil))) (pss_one (ps_ret pe_int)) pss_nil)
      (pss_cons (ps_set (i := 1) sc_warn.nd rfl (Or.inl rfl) (pe_fn GG hr (pa_cons (pv 0) pa_nil)))
      (pss_cons (ps_if (pt_cmpR op_le (pv 1) pe_int (nomark _)) (pss_one (ps_ret pe_int)) pss_nil)
      (pss_cons (ps_set (i := 2) sc_warn.nd rfl (Or.inl rfl) (pe_op op_add (pe_op op_fdiv (pe_op op_sub (pe_cst T.kFOUL_ABOVE rfl) (pe_fld (pv 0) rfl)) (pv 1)) pe_int))
      (pss_cons (ps_if (pt_cmpR op_gt (pv 2) (pe_cst T.kFORESEEN_MINUTES rfl) (nomark _)) (pss_one (ps_ret pe_int)) pss_nil)
      (pss_one (ps_ret (pe_op op_add (pv 2) pe_int))))))), ?_⟩
    refine ⟨_, rfl, a, v, rfl, ⟨dx, hx⟩, _, rfl, ite2 (fun h => ?_) (fun h => ?_)⟩
    · rw [warn_now (dT h)] at hk
      exact hk
    have h : v.gas ≤ 10000 := by have := dF h; omega
    refine ⟨_, rfl, a, v, rfl, ⟨dx, hx⟩, ?_⟩
    refine ⟨_, rfl, _, _, rfl, rfl, _, rfl, ite2 (fun h2 => ?_) (fun h2 => ?_)⟩
    · have h2 : (v.rate : Int) - (cl v : Int) ≤ 0 := dT h2
      rw [warn_never h (by omega)] at hk
      exact hk
    have h2 : ¬ (v.rate : Int) - (cl v : Int) ≤ 0 := dF h2
    have hg : cl v < v.rate := by omega
    refine ⟨_, rfl, a, C.L, dx, _, _, rfl, hx, T.cL, T.nGas, rfl, _, _, rfl, rfl, _, rfl, _, _, rfl, rfl, ⟨by omega, by omega⟩, _, _, rfl, rfl, ?_⟩
    show tSeq _ _ _ (List.set _ 2 (some (V.int (((10000 : Int) - ((v.gas : Nat) : Int)) / ((v.rate : Int) - (cl v : Int)) + 1)))) _
    rw [mins_int h hg]
    rw [warn_up h hg] at hk
    generalize (10000 - v.gas) / (v.rate - cl v) + 1 = m at hk ⊢
    refine ⟨_, rfl, _, _, rfl, rfl, _, rfl, ite2 (fun h3 => ?_) (fun h3 => ?_)⟩
    · have h3 : (1440 : Int) < ((m : Nat) : Int) := dT h3
      rw [if_neg (by omega)] at hk
      exact hk
    · have h3 : ¬ (1440 : Int) < ((m : Nat) : Int) := dF h3
      rw [if_pos (by omega)] at hk
      exact ⟨_, rfl, _, _, rfl, rfl, hk⟩
theorem ask_gas_none {s : Shf} {l : Nat} (h : s.level l = none) : askN s (.gas l) = [-2] := by
  unfold askN Km413.act
  dsimp only
  rw [h]
  rfl
theorem ask_gas {s : Shf} {l : Nat} {v : Lev} (h : s.level l = some v) : askN s (.gas l) = [((v.gas : Nat) : Int), ((warn v : Nat) : Int)] := by
  unfold askN Km413.act warn
  dsimp only
  rw [h]
  dsimp only
  cases v.foulIn <;> rfl
theorem sc_sh_gas : FnScope ["shaft", "number", "level"] ["shaft", "number"] (defScope t_sh_gas) := ⟨rfl, rfl, rfl, by decide +kernel, rfl, by decide +kernel, by decide +kernel⟩
theorem ok_sh_gas (T : Txt K mg C) (D : Df K mg "sh_gas" t_sh_gas ["shaft", "number"] f fd) (GL : Kn P w K mg base 1 "is_level" ["shaft", "number"] (spIsLevel C) f1 fd1) (GW : Kn P w K mg base 2 "warning_of" ["level"] (spWarn C) f2 fd2) :
    Kn P w K mg base 3 "sh_gas" ["shaft", "number"] (spAsk C 1 fun ns => .gas (ns.getD 0 0)) f fd := by
  refine D.kn (D.fn.ok sc_sh_gas (fun vs H Q E h => ?_) (fun cdv A outer s H vs Q E hr h => ?_))
  · obtain ⟨a, s, ns, rfl, hl, _⟩ := h
    simp [hl]
  · obtain ⟨a, s, ns, rfl, hl, ⟨g, o, S⟩, hk⟩ := h
    obtain ⟨l, rfl⟩ := len1 hl
    have hk : Told H (askN s (.gas l)) Q := hk
    refine ⟨_, pss_cons (ps_if (pt_not (pt_val (pe_fn GL hr (pa_cons (pv 0) (pa_cons (pv 1) pa_nil))))) (pss_one (ps_ret (pe_lst (pa_cons (pe_cst T.kMISSING rfl) pa_nil)))) pss_nil)
      (pss_cons (ps_set (i := 2) sc_sh_gas.nd rfl (Or.inl rfl) (pe_ix ix_list (pe_fld (pv 0) rfl) (pv 1) (fun _ _ => rfl)))
      (pss_one (ps_ret (pe_lst (pa_cons (pe_fld (pv 2) rfl) (pa_cons (pe_fn GW hr (pa_cons (pv 2) pa_nil)) pa_nil)))))), ?_⟩
    refine ⟨_, rfl, _, rfl, a, s, l, rfl, ⟨g, o, S⟩, _, rfl, ite2 (fun h => ?_) (fun h1 => ?_)⟩
    · have h := nT h
      rw [ask_gas_none (level_none (by omega))] at hk
      exact ⟨(by show 1 ≤ sizeLine; decide), fun l hl => hk.put (Same.refl _) hl rfl⟩
    have h1 := nF h1
    obtain ⟨x, dx, v, e1, e2, e3, e4, hx⟩ := lev_at1 S h1.1 h1.2
    rw [ask_gas e4] at hk
    refine ⟨_, rfl, a, C.S, o.dx, _, _, rfl, S.me, T.cS, T.nLevels, rfl, _, rfl, o.la, _, _, _, rfl, rfl, SqL.of S.la, atI_nat e1, ?_⟩
    exact ⟨_, rfl, x, C.L, dx, _, _, rfl, hx, T.cL, T.nGas, rfl, _, rfl, x, v, rfl, ⟨dx, hx⟩, (g.rt v (List.mem_of_getElem? e3)).1, (by show 2 ≤ sizeLine; decide), fun l hl => hk.put (Same.refl _) hl rfl⟩
/-! ### sh_foul -/
theorem sc_sh_foul : FnScope ["shaft", "number", "level"] ["shaft"] (defScope t_sh_foul) := ⟨rfl, rfl, rfl, by decide +kernel, rfl, by decide +kernel, by decide +kernel⟩
theorem ok_sh_foul (T : Txt K mg C) (D : Df K mg "sh_foul" t_sh_foul ["shaft"] f fd) (GC : Kn P w K mg base 2 "counted" ["numbers"] (spCounted K) f1 fd1) (GF : Kn P w K mg base 1 "is_foul" ["level"] (spIsFoul C) f2 fd2) :
    Kn P w K mg base 3 "sh_foul" ["shaft"] (spAsk C 0 fun _ => .foul) f fd := by
  refine D.kn (D.fn.ok sc_sh_foul (fun vs H Q E h => ?_) (fun cdv A outer s H vs Q E hr h => ?_))
  · obtain ⟨a, s, ns, rfl, hl, _⟩ := h
    simp [hl]
  · obtain ⟨a, s, ns, rfl, hl, ⟨g, o, S⟩, hk⟩ := h
    obtain rfl := len0 hl
    have hk : Told H (askN s .foul) Q := hk
    rw [ask_foul] at hk
    refine ⟨_, pss_one (ps_ret (pe_fn GC hr (pa_cons (pe_lc (own := [("number", 1), ("level", 2)]) (g := gTwo K 1 2) (te := tOp (rI0 fun i j => .int (i - j)) (tVar 1) (tC (.int 1))) rfl sc_sh_foul.nd (pi_enum (by rfl) T.bEnumerate (pa_cons (pe_fld (pv 0) rfl) pa_nil)) (blkOk_by rfl)
      (fun _ _ _ _ _ => pg_tup rfl (pgs_cons (pg_name (i := 1) sc_sh_foul.nd rfl (Or.inl rfl)) (pgs_cons (pg_name (i := 2) sc_sh_foul.nd rfl (Or.inl rfl)) pgs_nil))) (fun _ _ _ _ _ => pts_one (pt_val (pe_fn GF hr (pa_cons (pv 2) pa_nil)))) (fun _ _ _ _ _ => pe_op op_sub (pv 1) pe_int)) pa_nil))), ?_⟩
    refine ⟨_, rfl, a, C.S, o.dx, _, _, rfl, S.me, T.cS, T.nLevels, rfl, o.la, _, rfl, SqL.of S.la, fun Dd hD => ?_⟩
    have n6 : (v0 :: s.levels).length ≤ 1000 := by rw [List.length_cons]; have := g.lv; omega
    have n5 : s.levels.length ≤ 1000 := by have := g.lv; omega
    refine lc_en (K := K) (xs := o.ls.map V.ref) (v0 :: s.levels) (foulP (v0 :: s.levels)) (fun j => V.int (((j : Nat) : Int) - 1)) (SqL.of S.la) (by rw [List.length_map, S.lv.len]) (lt_line n6) hD (fun x y => rfl) ?_ ?_ ?_
    · intro j x y H1 k1 hx hy hs h3
      rw [List.getElem?_map] at hx
      obtain ⟨p, hp, rfl⟩ := Option.map_eq_some_iff.mp hx
      obtain ⟨dx, he⟩ := S.lv.at_ j _ _ hp hy
      have h3 := h3 H1 (Same.refl _)
      rw [foulP_at hy] at h3
      exact ⟨_, rfl, p, y, rfl, ⟨dx, hs _ _ he⟩, _, rfl, h3⟩
    · intro j x y H1 k1 hx hy _ hs h4
      exact ⟨_, rfl, _, _, rfl, rfl, h4 _ (Same.refl _)⟩
    · intro H1 hs hd
      rw [foul_eq s v0 (by decide), List.map_map] at hd
      have e : ((fun j : Nat => V.int (((j : Nat) : Int) - 1)) ∘ fun x => x + 1) = vN := by
        funext i
        show V.int (((i + 1 : Nat) : Int) - 1) = V.int ((i : Nat) : Int)
        congr 1
        omega
      rw [e] at hd
      exact ⟨Dd, foulL s, rfl, SqL.of hd, (filt_le n5).1, (filt_le n5).2, hk.same hs⟩
/-! ### sh_long -/
theorem sc_sh_long : FnScope ["shaft", "minutes", "latest", "number", "person"] ["shaft", "minutes"] (defScope t_sh_long) := ⟨rfl, rfl, rfl, by decide +kernel, rfl, by decide +kernel, by decide +kernel⟩
theorem ok_sh_long (T : Txt K mg C) (D : Df K mg "sh_long" t_sh_long ["shaft", "minutes"] f fd) (GC : Kn P w K mg base 2 "counted" ["numbers"] (spCounted K) f1 fd1) (GB : Kn P w K mg base 1 "is_below" ["person"] (spIsBelow C) f2 fd2) :
    Kn P w K mg base 3 "sh_long" ["shaft", "minutes"] (spAsk C 1 fun ns => .long (ns.getD 0 0)) f fd := by
  refine D.kn (D.fn.ok sc_sh_long (fun vs H Q E h => ?_) (fun cdv A outer s H vs Q E hr h => ?_))
  · obtain ⟨a, s, ns, rfl, hl, _⟩ := h
    simp [hl]
  · obtain ⟨a, s, ns, rfl, hl, ⟨g, o, S⟩, hk⟩ := h
    obtain ⟨n, rfl⟩ := len1 hl
    have hk : Told H (askN s (.long n)) Q := hk
    rw [ask_long g] at hk
    refine ⟨_, pss_cons (ps_set (i := 2) sc_sh_long.nd rfl (Or.inr rfl) (pe_op op_sub (pe_fld (pv 0) rfl) (pv 1)))
      (pss_one (ps_ret (pe_fn GC hr (pa_cons (pe_lc (own := [("number", 3), ("person", 4)]) (g := gTwo K 3 4) (tt := tAnd (tB (tCall (spIsBelow C) [] E0 (tCons (tVar 4) tNil))) (tTest (tOp (rI0 fun i j => .bl (decide (i ≤ j))) (tFld K (tVar 4) "since") (tVar 2)))) (te := tVar 3) rfl sc_sh_long.nd (pi_enum (by rfl) T.bEnumerate (pa_cons (pe_fld (pv 0) rfl) pa_nil)) (blkOk_by rfl)
      (fun _ _ _ _ _ => pg_tup rfl (pgs_cons (pg_name (i := 3) sc_sh_long.nd rfl (Or.inl rfl)) (pgs_cons (pg_name (i := 4) sc_sh_long.nd rfl (Or.inl rfl)) pgs_nil)))
      (fun _ _ _ _ _ => pts_one (PW.pt (pw_and (pt_val (pe_fn GB hr (pa_cons (pv 4) pa_nil))) (pw_and1 (pt_cmpR op_le (pe_fld (pv 4) rfl) (pv 2) (nomark _)))))) (fun _ _ _ _ _ => pv 3)) pa_nil)))), ?_⟩
    refine ⟨_, rfl, a, C.S, o.dx, _, _, rfl, S.me, T.cS, T.nMinute, rfl, _, rfl, _, _, rfl, rfl, ?_⟩
    refine ⟨_, rfl, a, C.S, o.dx, _, _, rfl, S.me, T.cS, T.nPersons, rfl, o.pa, _, rfl, SqL.of S.pa, fun Dd hD => ?_⟩
    have n24 : s.persons.length ≤ 1000 := Nat.le_trans g.ps (by decide)
    refine lc_en (K := K) (xs := o.ps.map V.ref) s.persons (longP s n) vN (SqL.of S.pa) (by rw [List.length_map, S.ps.len]) (lt_line n24) hD (fun x y => rfl) ?_ ?_ ?_
    · intro j x y H1 k1 hx hy hs h3
      rw [List.getElem?_map] at hx
      obtain ⟨p, hp, rfl⟩ := Option.map_eq_some_iff.mp hx
      obtain ⟨dx, he⟩ := S.ps.at_ j _ _ hp hy
      have h3 := h3 H1 (Same.refl _)
      rw [longP_at hy] at h3
      refine ⟨_, rfl, p, y, rfl, ⟨dx, hs _ _ he⟩, g.wh5 y (List.mem_of_getElem? hy), _, rfl, ?_⟩
      cases q : (Km413.levelIn y != 0) with
      | false =>
        rw [q] at h3
        exact iteF h3
      | true =>
        rw [q, Bool.true_and] at h3
        exact iteT ⟨_, rfl, p, C.P, dx, _, _, rfl, hs _ _ he, T.cP, T.nSince, rfl, _, rfl, _, _, rfl, rfl, _, rfl, h3⟩
    · intro j x y H1 k1 hx hy _ hs h4
      exact ⟨_, rfl, h4 _ (Same.refl _)⟩
    · intro H1 hs hd
      exact ⟨Dd, longL s n, rfl, SqL.of hd, (filt_le n24).1, (filt_le n24).2, hk.same hs⟩
/-! ### sh_may -/
theorem sc_sh_may : FnScope ["shaft", "number", "refusal"] ["shaft", "number"] (defScope t_sh_may) := ⟨rfl, rfl, rfl, by decide +kernel, rfl, by decide +kernel, by decide +kernel⟩
theorem ask_may (s : Shf) (l : Nat) : askN s (.may l) = if refW s l < 0 then [refW s l] else [((mts s l * s.load : Nat) : Int)] := by
  unfold askN Km413.act refW
  dsimp only
  rw [goes_safe, goes_worn, Nat.add_sub_cancel_left]
  split
  · rfl
  split
  · rfl
  split
  · rfl
  · rfl
theorem ok_sh_may (T : Txt K mg C) (D : Df K mg "sh_may" t_sh_may ["shaft", "number"] f fd) (GW : Kn P w K mg base 8 "winding_refusal" ["shaft", "number"] (spRefW C) f1 fd1) (GT : Kn P w K mg base 4 "wear_to" ["shaft", "number"] (spWearTo C) f2 fd2) :
    Kn P w K mg base 9 "sh_may" ["shaft", "number"] (spAsk C 1 fun ns => .may (ns.getD 0 0)) f fd := by
  refine D.kn (D.fn.ok sc_sh_may (fun vs H Q E h => ?_) (fun cdv A outer s H vs Q E hr h => ?_))
  · obtain ⟨a, s, ns, rfl, hl, _⟩ := h
    simp [hl]
  · obtain ⟨a, s, ns, rfl, hl, Sx, hk⟩ := h
    obtain ⟨l, rfl⟩ := len1 hl
    have hk : Told H (askN s (.may l)) Q := hk
    rw [ask_may] at hk
    refine ⟨_, pss_cons (ps_set (i := 2) sc_sh_may.nd rfl (Or.inl rfl) (pe_fn GW hr (pa_cons (pv 0) (pa_cons (pv 1) pa_nil))))
      (pss_cons (ps_if (pt_cmpR op_lt (pv 2) pe_int (nomark _)) (pss_one (ps_ret (pe_lst (pa_cons (pv 2) pa_nil)))) pss_nil)
      (pss_one (ps_ret (pe_lst (pa_cons (pe_fn GT hr (pa_cons (pv 0) (pa_cons (pv 1) pa_nil))) pa_nil))))), ?_⟩
    refine ⟨_, rfl, _, rfl, a, s, l, rfl, Sx, fun H1 s1 => ?_⟩
    refine ⟨_, rfl, _, _, rfl, rfl, _, rfl, ite2 (fun h => ?_) (fun h1 => ?_)⟩
    · have h : refW s l < 0 := dT h
      rw [if_pos h] at hk
      exact ⟨_, rfl, (by show 1 ≤ sizeLine; decide), fun l hl => hk.put s1 hl rfl⟩
    have h1 : ¬ refW s l < 0 := dF h1
    rw [if_neg h1] at hk
    have c1 : ¬ s.levels.length < l := fun q => h1 (by unfold refW; rw [if_pos q]; decide)
    exact ⟨_, rfl, _, rfl, a, s, l, rfl, Sx.same s1, by omega, fun H2 s2 => ⟨(by show 1 ≤ sizeLine; decide), fun l hl => hk.put (s1.trans s2) hl rfl⟩⟩
/-! ### sh_ore -/
theorem sc_sh_ore : FnScope ["shaft", "level"] ["shaft"] (defScope t_sh_ore) := ⟨rfl, rfl, rfl, by decide +kernel, rfl, by decide +kernel, by decide +kernel⟩
theorem ok_sh_ore (T : Txt K mg C) (D : Df K mg "sh_ore" t_sh_ore ["shaft"] f fd) : Kn P w K mg base 1 "sh_ore" ["shaft"] (spAsk C 0 fun _ => .ore) f fd := by
  refine D.kn (D.fn.ok sc_sh_ore (fun vs H Q E h => ?_) (fun cdv A outer s H vs Q E hr h => ?_))
  · obtain ⟨a, s, ns, rfl, hl, _⟩ := h
    simp [hl]
  · obtain ⟨a, s, ns, rfl, hl, ⟨g, o, S⟩, hk⟩ := h
    obtain rfl := len0 hl
    have hk : Told H [((s.bin : Nat) : Int), ((s.tub : Nat) : Int), ((Km413.sum (s.levels.map fun v => v.heap) : Nat) : Int), ((s.mined : Nat) : Int)] Q := hk
    refine ⟨_, pss_one (ps_ret (pe_lst (pa_cons (pe_fld (pv 0) rfl) (pa_cons (pe_fld (pv 0) rfl) (pa_cons (pe_callB (cr_sum rfl) (by rfl) T.bSum bootSum (pa_cons (pe_lc (own := [("level", 1)]) (te := tFld K (tVar 1) "ore") rfl sc_sh_ore.nd (pi_list (pe_fld (pv 0) rfl)) (blkOk_by rfl)
        (fun _ _ _ _ _ => pg_name (i := 1) sc_sh_ore.nd rfl (Or.inl rfl)) (fun _ _ _ _ _ => pts_nil) (fun _ _ _ _ _ => pe_fld (pv 1) rfl)) pa_nil)) (pa_cons (pe_fld (pv 0) rfl) pa_nil)))))), ?_⟩
    refine ⟨_, rfl, a, C.S, o.dx, _, _, rfl, S.me, T.cS, T.nDumped, rfl, _, rfl, a, C.S, o.dx, _, _, rfl, S.me, T.cS, T.nTub, rfl, _, rfl, a, C.S, o.dx, _, _, rfl, S.me, T.cS, T.nLevels, rfl, o.la, rfl, ⟨_, SqL.of S.la⟩, fun Dd hD => ?_⟩
    have n6 : (v0 :: s.levels).length ≤ 1000 := by rw [List.length_cons]; have := g.lv; omega
    refine lc_fm (K := K) (xs := o.ls.map V.ref) (v0 :: s.levels) (fun _ => true) (fun v => vN v.heap) (SqL.of S.la) (by rw [List.length_map, S.lv.len]) (lt_line n6) hD (fun x => rfl) ?_ ?_ ?_
    · intro j x y H1 k1 hx hy hs h3
      exact h3 _ (Same.refl _)
    · intro j x y H1 k1 hx hy _ hs h4
      rw [List.getElem?_map] at hx
      obtain ⟨p, hp, rfl⟩ := Option.map_eq_some_iff.mp hx
      obtain ⟨dx, he⟩ := S.lv.at_ j _ _ hp hy
      exact ⟨_, rfl, p, C.L, dx, _, _, rfl, hs _ _ he, T.cL, T.nOre, rfl, h4 _ (Same.refl _)⟩
    · intro H1 hs hd
      have e : ((v0 :: s.levels).filter fun _ => true).map (fun v => vN v.heap) = (((v0 :: s.levels).map fun v => v.heap).map fun (n : Nat) => (n : Int)).map V.int := by
        rw [map_vN, List.filter_eq_self.mpr (fun _ _ => rfl), List.map_map]
        rfl
      rw [e] at hd
      refine ⟨Dd, _, rfl, SqL.of hd, ?_⟩
      refine ⟨_, rfl, a, C.S, o.dx, _, _, rfl, hs _ _ S.me, T.cS, T.nMined, rfl, (by show 4 ≤ sizeLine; decide), fun p hp => hk.put hs hp ?_⟩
      rw [sum_int, List.map_cons, sum_cons, show v0.heap = 0 from rfl, Nat.zero_add]
      rfl
/-! ### sh_doors -/
def doorL (s : Shf) (d : Nat) : List Nat := (List.range s.locks.length).filter fun k => if d = 0 then (s.locks.getD k (false, false)).1 else (s.locks.getD k (false, false)).2
def spDoors (C : Ad) : Sp := fun vs H Q _ => ∃ (a : Addr) (s : Shf) (d : Nat), vs = [.ref a, vN d] ∧ d ≤ 1 ∧ Sh C H a s ∧ ∀ H', Same H H' → Q (vN (Km413.bits (doorL s d))) H'
theorem sc_locks : FnScope ["shaft", "side", "number", "doors"] ["shaft", "side"] (defScope t_locks_open_at) := ⟨rfl, rfl, rfl, by decide +kernel, rfl, by decide +kernel, by decide +kernel⟩
theorem ok_locks (T : Txt K mg C) (D : Df K mg "locks_open_at" t_locks_open_at ["shaft", "side"] f fd) (GB : Kn P w K mg base 1 "as_bits" ["numbers"] (spBits K) f1 fd1) : Kn P w K mg base 2 "locks_open_at" ["shaft", "side"] (spDoors C) f fd := by
  refine D.kn (D.fn.ok sc_locks (fun vs H Q E h => ?_) (fun cdv A outer s H vs Q E hr h => ?_))
  · obtain ⟨a, s, d, rfl, _⟩ := h
    rfl
  · obtain ⟨a, s, d, rfl, hd1, ⟨g, o, S⟩, hk⟩ := h
    refine ⟨_, pss_one (ps_ret (pe_fn GB hr (pa_cons (pe_lc (own := [("number", 2), ("doors", 3)]) (g := gTwo K 2 3) (tt := tB (tOp (rIxL K) (tVar 3) (tVar 1))) (te := tVar 2) rfl sc_locks.nd (pi_enum (by rfl) T.bEnumerate (pa_cons (pe_fld (pv 0) rfl) pa_nil)) (blkOk_by rfl)
      (fun _ _ _ _ _ => pg_tup rfl (pgs_cons (pg_name (i := 2) sc_locks.nd rfl (Or.inl rfl)) (pgs_cons (pg_name (i := 3) sc_locks.nd rfl (Or.inl rfl)) pgs_nil))) (fun _ _ _ _ _ => pts_one (pt_val (pe_ix ix_list (pv 3) (pv 1) (fun _ _ => rfl)))) (fun _ _ _ _ _ => pv 2)) pa_nil))), ?_⟩
    refine ⟨_, rfl, a, C.S, o.dx, _, _, rfl, S.me, T.cS, T.nLocks, rfl, o.ka, _, rfl, SqL.of S.ka, fun Dd hD => ?_⟩
    have n4 : s.locks.length ≤ 1000 := Nat.le_trans g.lk (by decide)
    refine lc_en (K := K) (xs := o.ks.map V.ref) s.locks (fun k => if d = 0 then (s.locks.getD k (false, false)).1 else (s.locks.getD k (false, false)).2) vN (SqL.of S.ka) (by rw [List.length_map, S.lk.len]) (lt_line n4) hD (fun x y => rfl) ?_ ?_ ?_
    · intro j x y H1 k1 hx hy hs h3
      rw [List.getElem?_map] at hx
      obtain ⟨p, hp, rfl⟩ := Option.map_eq_some_iff.mp hx
      have he : H p = some (.lst [.bl y.1, .bl y.2]) := S.lk.at_ j _ _ hp hy
      have h3 := h3 H1 (Same.refl _)
      have eg : s.locks.getD j (false, false) = y := by rw [List.getD_eq_getElem?_getD, hy]; rfl
      simp only [eg] at h3
      have hd2 : d = 0 ∨ d = 1 := by omega
      rcases hd2 with rfl | rfl
      · exact ⟨_, rfl, _, rfl, p, _, 0, _, rfl, rfl, SqL.of (hs _ _ he), atI_nat (j := 0) rfl, _, rfl, h3⟩
      · exact ⟨_, rfl, _, rfl, p, _, 1, _, rfl, rfl, SqL.of (hs _ _ he), atI_nat (j := 1) rfl, _, rfl, h3⟩
    · intro j x y H1 k1 hx hy _ hs h4
      exact ⟨_, rfl, h4 _ (Same.refl _)⟩
    · intro H1 hs hd
      exact ⟨Dd, doorL s d, rfl, SqL.of hd, (filt_le n4).1, (filt_le n4).2, fun H2 s2 => hk H2 (hs.trans s2)⟩
theorem sc_sh_doors : FnScope ["shaft"] ["shaft"] (defScope t_sh_doors) := ⟨rfl, rfl, rfl, by decide +kernel, rfl, by decide +kernel, by decide +kernel⟩
theorem ok_sh_doors (T : Txt K mg C) (D : Df K mg "sh_doors" t_sh_doors ["shaft"] f fd) (GL : Kn P w K mg base 2 "locks_open_at" ["shaft", "side"] (spDoors C) f1 fd1) : Kn P w K mg base 3 "sh_doors" ["shaft"] (spAsk C 0 fun _ => .doors) f fd := by
  refine D.kn (D.fn.ok sc_sh_doors (fun vs H Q E h => ?_) (fun cdv A outer s H vs Q E hr h => ?_))
  · obtain ⟨a, s, ns, rfl, hl, _⟩ := h
    simp [hl]
  · obtain ⟨a, s, ns, rfl, hl, Sx, hk⟩ := h
    obtain rfl := len0 hl
    have hk : Told H [((s.locks.length : Nat) : Int), ((Km413.bits (doorL s 0) : Nat) : Int), ((Km413.bits (doorL s 1) : Nat) : Int)] Q := hk
    obtain ⟨o, S⟩ := Sx.at_
    refine ⟨_, pss_one (ps_ret (pe_lst (pa_cons (pe_callB call_len_seq (by rfl) T.bLen bootLen (pa_cons (pe_fld (pv 0) rfl) pa_nil)) (pa_cons (pe_fn GL hr (pa_cons (pv 0) (pa_cons pe_int pa_nil))) (pa_cons (pe_fn GL hr (pa_cons (pv 0) (pa_cons pe_int pa_nil))) pa_nil))))), ?_⟩
    refine ⟨_, rfl, a, C.S, o.dx, _, _, rfl, S.me, T.cS, T.nLocks, rfl, o.ka, _, rfl, .inl (SqL.of S.ka), _, rfl, a, s, 0, rfl, by decide, Sx, fun H1 s1 => ?_⟩
    refine ⟨_, rfl, a, s, 1, rfl, by decide, Sx.same s1, fun H2 s2 => ⟨(by show 3 ≤ sizeLine; decide), fun p hp => hk.put (s1.trans s2) hp ?_⟩⟩
    rw [List.length_map, S.lk.len]
    rfl
end
end Ms
set_option Elab.async false
set_option linter.all false
set_option maxRecDepth 100000
set_option maxHeartbeats 4000000
namespace Ms
open PySem PySem.Spec PyProof.Rows L2
abbrev Dsk := Km413.Desk
def hiF (sv : V) (pa fa : Addr) : List (Str × V) := [("shaft", sv), ("past", .ref pa), ("future", .ref fa)]
/-- what the history's shafts are: the desk; none ahead of the first start -/
def HiSt (C : Ad) (HS : Hp) (sv : V) (ps fs : List Addr) : Option Dsk → Prop
  | none => sv = .non ∧ ps = [] ∧ fs = []
  | some d => ∃ a, sv = .ref a ∧ Sh C HS a d.now ∧ Al (Sh C HS) ps d.past.reverse ∧ Al (Sh C HS) fs d.future.reverse ∧ d.past.length + d.future.length ≤ 30
/-- HS holds the shafts alone; X: what is not the history's -/
structure HiIn (C : Ad) (X : List Addr) (H : Hp) (h : Addr) (S : Option Dsk) (HS : Hp) (dx pa fa : Addr) (sv : V) (ps fs : List Addr) : Prop where
  me : H h = some (.ins C.Hi dx (hiF sv pa fa))
  pl : H pa = some (.lst (ps.map V.ref))
  fl : H fa = some (.lst (fs.map V.ref))
  sm : Same HS H
  nh : HS h = none
  np : HS pa = none
  nf : HS fa = none
  pf : pa ≠ fa
  xh : h ∉ X
  xp : pa ∉ X
  xf : fa ∉ X
  xn : ∀ x ∈ X, HS x = none
  xt : ∀ x ∈ X, ∃ o, H x = some o
  st : HiSt C HS sv ps fs S
def HiAt (C : Ad) (X : List Addr) (H : Hp) (h : Addr) (S : Option Dsk) : Prop := ∃ HS dx pa fa sv ps fs, HiIn C X H h S HS dx pa fa sv ps fs
section
variable {C : Ad} {X : List Addr} {H H' : Hp} {h : Addr} {S : Option Dsk}
theorem HiAt.same (A : HiAt C X H h S) (e : Same H H') : HiAt C X H' h S := by
  obtain ⟨HS, dx, pa, fa, sv, ps, fs, I⟩ := A
  exact ⟨HS, dx, pa, fa, sv, ps, fs, e _ _ I.me, e _ _ I.pl, e _ _ I.fl, I.sm.trans e, I.nh, I.np, I.nf, I.pf, I.xh, I.xp, I.xf, I.xn, fun x hx => let ⟨o, q⟩ := I.xt x hx; ⟨o, e _ _ q⟩, I.st⟩
/-- what is not the history's may change -/
theorem HiAt.touch (A : HiAt C X H h S) {t : Addr} (ht : t ∈ X) (u : HO) : HiAt C X (upd H t u) h S := by
  obtain ⟨HS, dx, pa, fa, sv, ps, fs, I⟩ := A
  have ne : ∀ {b : Addr}, b ∉ X → b ≠ t := fun q e => q (by rw [e]; exact ht)
  refine ⟨HS, dx, pa, fa, sv, ps, fs, ?_, ?_, ?_, fun b o e => ?_, I.nh, I.np, I.nf, I.pf, I.xh, I.xp, I.xf, I.xn, fun x hx => ?_, I.st⟩
  · rw [upd_ne (ne I.xh)]; exact I.me
  · rw [upd_ne (ne I.xp)]; exact I.pl
  · rw [upd_ne (ne I.xf)]; exact I.fl
  · rw [upd_ne (ne_of_none e (I.xn t ht))]; exact I.sm b o e
  · by_cases q : x = t
    · subst q; exact ⟨u, upd_same⟩
    · rw [upd_ne q]; exact I.xt x hx
/-- a new thing is not the history's -/
theorem HiAt.more (A : HiAt C X H h S) {t : Addr} (ht : H t = none) (u : HO) : HiAt C (t :: X) (upd H t u) h S := by
  obtain ⟨HS, dx, pa, fa, sv, ps, fs, I⟩ := A
  have e : Same H (upd H t u) := Same.upd_new ht
  refine ⟨HS, dx, pa, fa, sv, ps, fs, e _ _ I.me, e _ _ I.pl, e _ _ I.fl, I.sm.trans e, I.nh, I.np, I.nf, I.pf, ?_, ?_, ?_, ?_, ?_, I.st⟩
  · intro q
    rcases List.mem_cons.mp q with q | q
    · rw [← q, I.me] at ht; cases ht
    · exact I.xh q
  · intro q
    rcases List.mem_cons.mp q with q | q
    · rw [← q, I.pl] at ht; cases ht
    · exact I.xp q
  · intro q
    rcases List.mem_cons.mp q with q | q
    · rw [← q, I.fl] at ht; cases ht
    · exact I.xf q
  · intro x hx
    rcases List.mem_cons.mp hx with rfl | hx
    · exact I.sm.free ht
    · exact I.xn x hx
  · intro x hx
    rcases List.mem_cons.mp hx with rfl | hx
    · exact ⟨u, upd_same⟩
    · obtain ⟨o, q⟩ := I.xt x hx
      exact ⟨o, e _ _ q⟩
end
/-- at L what stands in H1, else what stands in HS -/
def ghost (L : List Addr) (H1 HS : Hp) : Hp := fun b => if b ∈ L then H1 b else HS b
theorem ghost_in {L : List Addr} {H1 HS : Hp} {b : Addr} (h : b ∈ L) : ghost L H1 HS b = H1 b := if_pos h
theorem ghost_out {L : List Addr} {H1 HS : Hp} {b : Addr} (h : b ∉ L) : ghost L H1 HS b = HS b := if_neg h
/-- what is not the history's stands as it was -/
def Kept (X : List Addr) (H H' : Hp) : Prop := ∀ x ∈ X, ∀ o, H x = some o → H' x = some o
theorem Kept.of {X : List Addr} {H H' : Hp} (e : Same H H') : Kept X H H' := fun x _ o q => e x o q
theorem Kept.trans {X : List Addr} {H H1 H2 : Hp} (a : Kept X H H1) (b : Kept X H1 H2) : Kept X H H2 := fun x hx o q => b x hx o (a x hx o q)
theorem Al.map_same {C : Ad} {HS HS' : Hp} {ps : List Addr} {l : List Shf} (A : Al (Sh C HS) ps l) (e : Same HS HS') : Al (Sh C HS') ps l := A.keep fun x _ s q => q.same e
section
variable {P : Program} {w : World} {K : PySem.W.Frag} {mg : Str → Option Value} {base : Heap} {C : Ad} {f f1 f2 f3 : Addr} {fd fd1 fd2 fd3 : FuncData}
/-! ### a new history -/
def spHistory (C : Ad) : Sp := fun vs H Q _ => ∃ (p dx : Addr) (X : List Addr), vs = [.ref p] ∧ H p = some (.ins C.Hi dx []) ∧ (∀ x ∈ X, x ≠ p ∧ ∃ o, H x = some o) ∧ ∀ H' : Hp, HiAt C X H' p none → (∀ b o, H b = some o → b ≠ p → H' b = some o) → Q .non H'
theorem scHistory : FnScope ["self"] ["self"] (defScope tHistory) := ⟨rfl, rfl, rfl, by decide +kernel, rfl, by decide +kernel, by decide +kernel⟩
theorem okHistory (T : Txt K mg C) (D : Dc K mg "History" "History.__init__" tHistory ["self"] C.Hi f fd) : Kc P w K mg base 1 "History" ["self"] (spHistory C) C.Hi f fd := by
  refine D.kc (D.fn.ok scHistory (fun vs H Q E h => ?_) (fun cdv A outer s H vs Q E hr h => ?_))
  · obtain ⟨p, dx, X, rfl, _⟩ := h
    rfl
  · obtain ⟨p, dx, X, rfl, hp, hX, hk⟩ := h
    refine ⟨_, pss_cons (ps_fld (pv 0) pe_non rfl) (pss_cons (ps_fld (pv 0) (pe_lst pa_nil) rfl) (pss_one (ps_fld (pv 0) (pe_lst pa_nil) rfl))), ?_⟩
    refine ⟨_, rfl, p, C.Hi, dx, _, rfl, hp, T.cH, T.nShaft, (by show 0 < 1000; decide), ?_⟩
    refine ⟨Nat.zero_le _, fun l hl => ?_⟩
    have lp : l ≠ p := fun q => by rw [q, upd_same] at hl; cases hl
    rw [upd_ne lp] at hl
    refine ⟨_, rfl, p, C.Hi, dx, _, rfl, (upd_ne (Ne.symm lp)).trans upd_same, T.cH, T.nPast, (by show 1 < 1000; decide), ?_⟩
    refine ⟨Nat.zero_le _, fun m hm => ?_⟩
    have mp : m ≠ p := fun q => by rw [q, upd_same] at hm; cases hm
    rw [upd_ne mp] at hm
    have ml : m ≠ l := fun q => by rw [q, upd_same] at hm; cases hm
    rw [upd_ne ml, upd_ne mp] at hm
    refine ⟨_, rfl, p, C.Hi, dx, _, rfl, (upd_ne (Ne.symm mp)).trans upd_same, T.cH, T.nFuture, (by show 2 < 1000; decide), ?_⟩
    have keep : ∀ (u1 u2 u3 u4 u5 : HO) (b : Addr) (o : HO), H b = some o → b ≠ p → upd (upd (upd (upd (upd H p u1) l u2) p u3) m u4) p u5 b = some o := fun u1 u2 u3 u4 u5 b o e ne => by
      have bl : b ≠ l := fun q => by rw [← q, e] at hl; cases hl
      have bm : b ≠ m := fun q => by rw [← q, e] at hm; cases hm
      rw [upd_ne ne, upd_ne bm, upd_ne ne, upd_ne bl, upd_ne ne]
      exact e
    refine hk _ ⟨fun _ => none, dx, l, m, .non, [], [], upd_same.trans rfl, ?_, ?_, fun b o e => (by cases e), rfl, rfl, rfl, Ne.symm ml, fun q => (hX p q).1 rfl, fun q => ?_, fun q => ?_, fun x hx => rfl, fun x hx => ?_, rfl, rfl, rfl⟩ (fun b o e ne => keep _ _ _ _ _ b o e ne)
    · rw [upd_ne lp, upd_ne (Ne.symm ml), upd_ne lp]
      exact upd_same
    · rw [upd_ne mp]
      exact upd_same
    · obtain ⟨_, o, e⟩ := hX l q
      rw [e] at hl; cases hl
    · obtain ⟨_, o, e⟩ := hX m q
      rw [e] at hm; cases hm
    · obtain ⟨ne, o, e⟩ := hX x hx
      exact ⟨o, keep _ _ _ _ _ x o e ne⟩
/-! ### sh_start -/
def spStart (C : Ad) : Sp := fun vs H Q _ => ∃ (h : Addr) (X : List Addr) (S : Option Dsk) (r1 r2 r3 : Nat), vs = [.ref h, vN r1, vN r2, vN r3] ∧ HiAt C X H h S ∧
  (Km413.okStart r1 r2 r3 = false → Q (.int (-22)) H) ∧ (Km413.okStart r1 r2 r3 = true → ∀ H', HiAt C X H' h (some ⟨Km413.opened r1 r2 r3, [], []⟩) → Kept X H H' → Q (.int 0) H')
theorem sc_sh_start : FnScope ["history", "room", "rope", "speed"] ["history", "room", "rope", "speed"] (defScope t_sh_start) := ⟨rfl, rfl, rfl, by decide +kernel, rfl, by decide +kernel, by decide +kernel⟩
theorem start_no {a b c : Nat} (h : a < 1 ∨ 8 < a ∨ 2000000000 < b ∨ c < 1 ∨ 1000 < c) : Km413.okStart a b c = false := by
  unfold Km413.okStart
  simp only [Bool.and_eq_false_iff, decide_eq_false_iff_not]
  omega
theorem start_yes {a b c : Nat} (h1 : 1 ≤ a) (h2 : a ≤ 8) (h3 : b ≤ 2000000000) (h4 : 1 ≤ c) (h5 : c ≤ 1000) : Km413.okStart a b c = true := by
  unfold Km413.okStart
  simp only [Bool.and_eq_true, decide_eq_true_eq]
  omega
theorem ok_sh_start (T : Txt K mg C) (D : Df K mg "sh_start" t_sh_start ["history", "room", "rope", "speed"] f fd) (GS : Kc P w K mg base 3 "Shaft" ["self", "room", "rope", "speed"] (spShaft C) C.S f1 fd1) :
    Kn P w K mg base 5 "sh_start" ["history", "room", "rope", "speed"] (spStart C) f fd := by
  refine D.kn (D.fn.ok sc_sh_start (fun vs H Q E h => ?_) (fun cdv A outer s H vs Q E hr h => ?_))
  · obtain ⟨h, X, S, r1, r2, r3, rfl, _⟩ := h
    rfl
  · obtain ⟨h, X, S, r1, r2, r3, rfl, A, no, yes⟩ := h
    obtain ⟨HS, dx, pa, fa, sv, ps, fs, I⟩ := A
    refine ⟨_, pss_cons (ps_if (PW.pt (pw_or (pt_cmpR op_lt (pv 1) pe_int (nomark _)) (pw_or (pt_cmpR op_gt (pv 1) (pe_cst T.kMOST_ROOM rfl) (nomark _)) (pw_or (pt_cmpR op_gt (pv 2) (pe_cst T.kSTRONGEST_ROPE rfl) (nomark _)) (pw_or (pt_cmpR op_lt (pv 3) pe_int (nomark _)) (pw_or1 (pt_cmpR op_gt (pv 3) (pe_cst T.kMOST_SPEED rfl) (nomark _))))))))
        (pss_one (ps_ret (pe_cst T.kWRONG rfl))) pss_nil)
      (pss_cons (ps_fld (pv 0) (pe_new GS hr (pa_cons (pv 1) (pa_cons (pv 2) (pa_cons (pv 3) pa_nil)))) rfl)
      (pss_cons (ps_fld (pv 0) (pe_lst pa_nil) rfl) (pss_cons (ps_fld (pv 0) (pe_lst pa_nil) rfl) (pss_one (ps_ret pe_int))))), ?_⟩
    refine ⟨_, rfl, _, _, rfl, rfl, _, rfl, ite2 (fun q => iteT (no (start_no (by have := dT q; omega)))) (fun h1 => ?_)⟩
    refine ⟨_, rfl, _, _, rfl, rfl, _, rfl, ite2 (fun q => iteT (no (start_no (by have := dT q; omega)))) (fun h2 => ?_)⟩
    refine ⟨_, rfl, _, _, rfl, rfl, _, rfl, ite2 (fun q => iteT (no (start_no (by have := dT q; omega)))) (fun h3 => ?_)⟩
    refine ⟨_, rfl, _, _, rfl, rfl, _, rfl, ite2 (fun q => iteT (no (start_no (by have := dT q; omega)))) (fun h4 => ?_)⟩
    refine ⟨_, rfl, _, _, rfl, rfl, _, rfl, ite2 (fun q => no (start_no (by have := dT q; omega))) (fun h5 => ?_)⟩
    have h1 := dF h1
    have h2 := dF h2
    have h3 := dF h3
    have h4 := dF h4
    have h5 := dF h5
    refine ⟨_, rfl, _, rfl, _, rfl, ?_⟩
    intro t dt nt ndt _
    refine ⟨t, dt, r1, r2, r3, rfl, upd_same, fun H1 o1 S1 k1 f1 => ⟨rfl, ?_⟩⟩
    have s1 : Same H H1 := made_same nt ndt k1
    have fr1 : ∀ x ∈ adr t o1, H x = none := fun x hx => by
      rcases f1 x hx with rfl | q
      · exact nt
      · by_cases e : x = t
        · rw [e]; exact nt
        · rw [upd_ne e] at q
          by_cases e2 : x = dt
          · rw [e2]; exact ndt
          · rw [upd_ne e2] at q; exact q
    have m1 := s1 _ _ I.me
    refine ⟨_, rfl, h, C.Hi, dx, _, rfl, m1, T.cH, T.nShaft, (by show 3 < 1000; decide), ?_⟩
    refine ⟨Nat.zero_le _, fun l hl => ?_⟩
    have lh : l ≠ h := fun q => by rw [q, upd_same] at hl; cases hl
    rw [upd_ne lh] at hl
    refine ⟨_, rfl, h, C.Hi, dx, _, rfl, (upd_ne (Ne.symm lh)).trans upd_same, T.cH, T.nPast, (by show 3 < 1000; decide), ?_⟩
    refine ⟨Nat.zero_le _, fun m hm => ?_⟩
    have mh : m ≠ h := fun q => by rw [q, upd_same] at hm; cases hm
    rw [upd_ne mh] at hm
    have ml : m ≠ l := fun q => by rw [q, upd_same] at hm; cases hm
    rw [upd_ne ml, upd_ne mh] at hm
    refine ⟨_, rfl, h, C.Hi, dx, _, rfl, (upd_ne (Ne.symm mh)).trans upd_same, T.cH, T.nFuture, (by show 3 < 1000; decide), ?_⟩
    have keep : ∀ (u1 u2 u3 u4 u5 : HO) (b : Addr) (o : HO), H1 b = some o → b ≠ h → upd (upd (upd (upd (upd H1 h u1) l u2) h u3) m u4) h u5 b = some o := fun u1 u2 u3 u4 u5 b o e ne => by
      have bl : b ≠ l := fun q => by rw [← q, e] at hl; cases hl
      have bm : b ≠ m := fun q => by rw [← q, e] at hm; cases hm
      rw [upd_ne ne, upd_ne bm, upd_ne ne, upd_ne bl, upd_ne ne]
      exact e
    have xne : ∀ x ∈ X, x ≠ h := fun x hx q => I.xh (by rw [← q]; exact hx)
    have tr : ∀ x ∈ adr t o1, ∃ u, H1 x = some u := fun x hx => S1.there hx
    have nah : ∀ x ∈ adr t o1, x ≠ h := fun x hx q => by have := fr1 x hx; rw [q, I.me] at this; cases this
    refine yes (start_yes (by omega) (by omega) (by omega) (by omega) (by omega)) _ ⟨ghost (adr t o1) H1 (fun _ => none), dx, l, m, .ref t, [], [], upd_same.trans rfl, ?_, ?_, ?_, ?_, ?_, ?_, Ne.symm ml, I.xh, ?_, ?_, ?_, ?_, ?_⟩ ?_
    · rw [upd_ne lh, upd_ne (Ne.symm ml), upd_ne lh]
      exact upd_same
    · rw [upd_ne mh]
      exact upd_same
    · intro b o e
      by_cases q : b ∈ adr t o1
      · rw [ghost_in q] at e
        exact keep _ _ _ _ _ b o e (nah b q)
      · rw [ghost_out q] at e; cases e
    · exact ghost_out fun q => nah h q rfl
    · refine ghost_out fun q => ?_
      obtain ⟨u, hu⟩ := tr l q
      rw [hu] at hl; cases hl
    · refine ghost_out fun q => ?_
      obtain ⟨u, hu⟩ := tr m q
      rw [hu] at hm; cases hm
    · intro q
      obtain ⟨o, ho⟩ := I.xt l q
      rw [s1 _ _ ho] at hl; cases hl
    · intro q
      obtain ⟨o, ho⟩ := I.xt m q
      rw [s1 _ _ ho] at hm; cases hm
    · intro x hx
      refine ghost_out fun q => ?_
      obtain ⟨o, ho⟩ := I.xt x hx
      have := fr1 x q
      rw [ho] at this; cases this
    · intro x hx
      obtain ⟨o, ho⟩ := I.xt x hx
      exact ⟨o, keep _ _ _ _ _ x o (s1 _ _ ho) (xne x hx)⟩
    · refine ⟨t, rfl, ⟨Good.opened (by omega) (by omega) (by omega) (by omega), o1, S1.cong fun x hx u e => ?_⟩, Al.nil, Al.nil, by show 0 + 0 ≤ 30; decide⟩
      rw [ghost_in hx]; exact e
    · intro x hx o ho
      exact keep _ _ _ _ _ x o (s1 _ _ ho) (xne x hx)
end
end Ms
set_option Elab.async false
set_option linter.all false
set_option maxRecDepth 100000
set_option maxHeartbeats 4000000
namespace Ms
open PySem PySem.Spec PyProof.Rows L2
section
variable {P : Program} {w : World} {K : PySem.W.Frag} {mg : Str → Option Value} {base : Heap} {C : Ad} {f f1 f2 f3 : Addr} {fd fd1 fd2 fd3 : FuncData}
/-- a def by its address -/
structure Fa (P : Program) (w : World) (K : PySem.W.Frag) (mg : Str → Option Value) (base : Heap) (k : Nat) (g : Addr) (sp : Sp) : Prop where
  ex : ∃ fd ps, FnOk P w K mg base CX0 k g fd ps sp ∧ Binds K fd ps []
  kp : PySem.W.keepIn K (.ref g) = true
theorem Kn.fa {k k' : Nat} {nm : Str} {ps : List Str} {sp : Sp} (G : Kn P w K mg base k nm ps sp f fd) (h : k ≤ k') : Fa P w K mg base k' f sp := ⟨⟨fd, ps, G.ok.mono h, G.bd⟩, G.kp⟩
/-! ### carry_out -/
def spCarry (P : Program) (w : World) (K : PySem.W.Frag) (mg : Str → Option Value) (base : Heap) (k : Nat) : Sp := fun vs H Q _ => ∃ (g a l : Addr) (ns : List Nat) (sp : Sp), vs = [.ref g, .ref a, .ref l] ∧ SqL K H l (ns.map vN) ∧ ns.length ≤ 3 ∧ Fa P w K mg base k g sp ∧ sp (V.ref a :: ns.map vN) H Q E0
theorem sc_carry : FnScope ["call", "shaft", "numbers"] ["call", "shaft", "numbers"] (defScope t_carry_out) := ⟨rfl, rfl, rfl, by decide +kernel, rfl, by decide +kernel, by decide +kernel⟩
theorem ok_carry (T : Txt K mg C) (D : Df K mg "carry_out" t_carry_out ["call", "shaft", "numbers"] f fd) : Kn P w K mg base 10 "carry_out" ["call", "shaft", "numbers"] (spCarry P w K mg base 9) f fd := by
  refine D.kn (D.fn.ok sc_carry (fun vs H Q E h => ?_) (fun cdv A outer s H vs Q E hr h => ?_))
  · obtain ⟨g, a, l, ns, sp, rfl, _⟩ := h
    rfl
  · obtain ⟨g, a, l, ns, sp, rfl, hl, h3, ⟨⟨fd', ps', G, B⟩, kp⟩, hk⟩ := h
    refine ⟨_, pss_cons (ps_if (pt_cmpR op_eq (pe_callB call_len_seq (by rfl) T.bLen bootLen (pa_cons (pv 2) pa_nil)) pe_int (nomark _)) (pss_one (ps_ret (pe_callV 0 (pa_cons (pv 1) pa_nil)))) pss_nil)
      (pss_cons (ps_if (pt_cmpR op_eq (pe_callB call_len_seq (by rfl) T.bLen bootLen (pa_cons (pv 2) pa_nil)) pe_int (nomark _)) (pss_one (ps_ret (pe_callV 0 (pa_cons (pv 1) (pa_cons (pe_ix ix_list (pv 2) pe_int (fun _ _ => rfl)) pa_nil))))) pss_nil)
      (pss_cons (ps_if (pt_cmpR op_eq (pe_callB call_len_seq (by rfl) T.bLen bootLen (pa_cons (pv 2) pa_nil)) pe_int (nomark _)) (pss_one (ps_ret (pe_callV 0 (pa_cons (pv 1) (pa_cons (pe_ix ix_list (pv 2) pe_int (fun _ _ => rfl)) (pa_cons (pe_ix ix_list (pv 2) pe_int (fun _ _ => rfl)) pa_nil)))))) pss_nil)
      (pss_one (ps_ret (pe_callV 0 (pa_cons (pv 1) (pa_cons (pe_ix ix_list (pv 2) pe_int (fun _ _ => rfl)) (pa_cons (pe_ix ix_list (pv 2) pe_int (fun _ _ => rfl)) (pa_cons (pe_ix ix_list (pv 2) pe_int (fun _ _ => rfl)) pa_nil))))))))), ?_⟩
    refine ⟨_, rfl, l, _, rfl, .inl hl, rfl, _, rfl, ite2 (fun h => ?_) (fun h1 => ?_)⟩
    · have h : (((ns.map vN).length : Nat) : Int) = 0 := vInj (dT h)
      rw [List.length_map] at h
      obtain rfl := len0 (show ns.length = 0 by omega)
      exact ⟨g, rfl, kp, _, rfl, 9, fd', ps', sp, G, hr, B, hk⟩
    have h1 : ns.length ≠ 0 := fun q => dF h1 (congrArg V.int (show (((ns.map vN).length : Nat) : Int) = 0 by rw [List.length_map]; omega))
    refine ⟨_, rfl, l, _, rfl, .inl hl, rfl, _, rfl, ite2 (fun h => ?_) (fun h2 => ?_)⟩
    · have h : (((ns.map vN).length : Nat) : Int) = 1 := vInj (dT h)
      rw [List.length_map] at h
      obtain ⟨x, rfl⟩ := len1 (show ns.length = 1 by omega)
      exact ⟨g, rfl, kp, _, rfl, _, rfl, l, _, 0, _, rfl, rfl, hl, atI_nat (j := 0) rfl, 9, fd', ps', sp, G, hr, B, hk⟩
    have h2 : ns.length ≠ 1 := fun q => dF h2 (congrArg V.int (show (((ns.map vN).length : Nat) : Int) = 1 by rw [List.length_map]; omega))
    refine ⟨_, rfl, l, _, rfl, .inl hl, rfl, _, rfl, ite2 (fun h => ?_) (fun h4 => ?_)⟩
    · have h : (((ns.map vN).length : Nat) : Int) = 2 := vInj (dT h)
      rw [List.length_map] at h
      obtain ⟨x, y, rfl⟩ := len2 (show ns.length = 2 by omega)
      exact ⟨g, rfl, kp, _, rfl, _, rfl, l, _, 0, _, rfl, rfl, hl, atI_nat (j := 0) rfl, _, rfl, l, _, 1, _, rfl, rfl, hl, atI_nat (j := 1) rfl, 9, fd', ps', sp, G, hr, B, hk⟩
    have h4 : ns.length ≠ 2 := fun q => dF h4 (congrArg V.int (show (((ns.map vN).length : Nat) : Int) = 2 by rw [List.length_map]; omega))
    obtain ⟨x, y, z, rfl⟩ := len3 (show ns.length = 3 by omega)
    exact ⟨g, rfl, kp, _, rfl, _, rfl, l, _, 0, _, rfl, rfl, hl, atI_nat (j := 0) rfl, _, rfl, l, _, 1, _, rfl, rfl, hl, atI_nat (j := 1) rfl, _, rfl, l, _, 2, _, rfl, rfl, hl, atI_nat (j := 2) rfl, 9, fd', ps', sp, G, hr, B, hk⟩
/-! ### make_change -/
def spMake (P : Program) (w : World) (K : PySem.W.Frag) (mg : Str → Option Value) (base : Heap) (C : Ad) : Sp := fun vs H Q _ => ∃ (h g l : Addr) (X : List Addr) (d : Dsk) (n : Nat) (ns : List Nat) (c : List Nat → Km413.Call), vs = [.ref h, .ref g, .ref l] ∧ HiAt C X H h (some d) ∧ SqL K H l (ns.map vN) ∧ ns.length = n ∧ n ≤ 3 ∧
  Fa P w K mg base 9 g (spChg C n c) ∧ Km413.isStart (c ns) = false ∧ isChange (c ns) = true ∧ ∀ H', HiAt C X H' h (some (Km413.act d (c ns)).1) → Kept X H H' → Q (.int (Km413.act d (c ns)).2.value) H'
theorem sc_make : FnScope ["history", "change", "numbers", "trial", "answer"] ["history", "change", "numbers"] (defScope t_make_change) := ⟨rfl, rfl, rfl, by decide +kernel, rfl, by decide +kernel, by decide +kernel⟩
theorem cut_last (xs : List V) : cutV xs (some (-30)) none = xs.drop (xs.length - 30) := by
  unfold cutV
  rw [HT.sIx_none]
  have e : HT.sIx xs.length 0 (some (-30)) = xs.length - 30 := by
    show (if (-30 : Int) < 0 then ((-30 : Int) + (xs.length : Int)).toNat else min (-30 : Int).toNat xs.length) = xs.length - 30
    rw [if_pos (by decide)]
    omega
  rw [e, List.take_of_length_le (by rw [List.length_drop]; exact Nat.le_refl _)]
theorem past_rev (a : Shf) (l : List Shf) : ((a :: l).take 30).reverse = (l.reverse ++ [a]).drop ((l.reverse ++ [a]).length - 30) := by
  have e : l.reverse ++ [a] = (a :: l).reverse := by rw [List.reverse_cons]
  rw [e, List.length_reverse, List.drop_reverse]
  congr 1
  by_cases h : 30 ≤ (a :: l).length
  · rw [show (a :: l).length - ((a :: l).length - 30) = 30 by omega]
  · rw [show (a :: l).length - 30 = 0 by omega, Nat.sub_zero, List.take_length, List.take_of_length_le (by omega)]
theorem Al.drop {α β : Type} {F : α → β → Prop} {l : List α} {m : List β} (A : Al F l m) (n : Nat) : Al F (l.drop n) (m.drop n) := by
  refine ⟨by rw [List.length_drop, List.length_drop, A.len], fun i a b ha hb => ?_⟩
  rw [List.getElem?_drop] at ha hb
  exact A.at_ _ a b ha hb
theorem ok_make (T : Txt K mg C) (D : Df K mg "make_change" t_make_change ["history", "change", "numbers"] f fd) (GC : Kn P w K mg base 5 "copy_of_shaft" ["shaft"] (spCopy C) f1 fd1)
    (GO : Kn P w K mg base 10 "carry_out" ["call", "shaft", "numbers"] (spCarry P w K mg base 9) f2 fd2) : Kn P w K mg base 11 "make_change" ["history", "change", "numbers"] (spMake P w K mg base C) f fd := by
  refine D.kn (D.fn.ok sc_make (fun vs H Q E h => ?_) (fun cdv A outer s H vs Q E hr h => ?_))
  · obtain ⟨h, g, l, X, d, n, ns, c, rfl, _⟩ := h
    rfl
  · obtain ⟨h, g, l, X, d, n, ns, c, rfl, A0, hl, hn, h3, G, hst, hch, hk⟩ := h
    obtain ⟨HS, dx, pa, fa, sv, ps, fs, I⟩ := A0
    obtain ⟨a, rfl, Sn, Ap, Af, h30⟩ := I.st
    refine ⟨_, pss_cons (ps_set (i := 3) sc_make.nd rfl (Or.inl rfl) (pe_fn GC hr (pa_cons (pe_fld (pv 0) rfl) pa_nil)))
      (pss_cons (ps_set (i := 4) sc_make.nd rfl (Or.inl rfl) (pe_fn GO hr (pa_cons (pv 1) (pa_cons (pv 3) (pa_cons (pv 2) pa_nil)))))
      (pss_cons (ps_if (pt_cmpR op_ge (pv 4) pe_int (nomark _))
        (pss_cons (ps_expr (pe_bm PySem.F.plainAttrs_list PySem.F.slot_list_append PySem.F.type_list_append mt_append (pe_fld (pv 0) rfl) (pa_cons (pe_fld (pv 0) rfl) pa_nil)))
        (pss_cons (ps_fld (pv 0) (pe_slice sl_list (pe_fld (pv 0) rfl) (po_some (pe_un un_neg (pe_cst T.kMOST_TAKEN_BACK rfl))) po_none) rfl)
        (pss_cons (ps_fld (pv 0) (pe_lst pa_nil) rfl)
        (pss_one (ps_fld (pv 0) (pv 3) rfl))))) pss_nil)
      (pss_one (ps_ret (pv 4))))), ?_⟩
    refine ⟨_, rfl, h, C.Hi, dx, _, _, rfl, I.me, T.cH, T.nShaft, rfl, a, d.now, rfl, Sn.same I.sm, fun H1 t o R => ?_⟩
    have s1 := R.sm
    refine ⟨_, rfl, _, rfl, _, rfl, g, t, l, ns, _, rfl, s1.seq hl, by omega, G, H, t, d.now, o, ns, rfl, hn, R, Sn.good, fun H2 r s2 er hR => ?_⟩
    have ea := act_change d (c ns) hch
    rw [← er] at ea
    refine ⟨_, rfl, _, _, rfl, rfl, _, rfl, ite2 (fun q => ?_) (fun q => ?_)⟩
    · have q := dT q
      obtain ⟨o', R2⟩ := hR q
      rw [if_neg (by omega)] at ea
      have hv : (Km413.act d (c ns)).2.value = r := by rw [ea]; exact er.symm
      have hd : (Km413.act d (c ns)).1 = d.become (chg d.now (c ns)).1.now := by rw [ea]
      have m2 := s2 _ _ I.me
      have p2 := s2 _ _ I.pl
      have hp : h ≠ pa := ne_of I.me I.pl (by intro z; cases z)
      have hf : h ≠ fa := ne_of I.me I.fl (by intro z; cases z)
      have lp : ps.length = d.past.length := by rw [Ap.len, List.length_reverse]
      refine ⟨_, rfl, h, C.Hi, dx, _, _, rfl, m2, T.cH, T.nPast, rfl, .inl ⟨rfl, _, SqL.of p2⟩, _, rfl, h, C.Hi, dx, _, _, rfl, m2, T.cH, T.nShaft, rfl, pa, _, _, rfl, rfl, p2, ?_, ?_⟩
      · rw [List.length_map, lp]
        exact lt_line (by omega)
      refine ⟨_, rfl, h, C.Hi, dx, _, _, rfl, (upd_ne hp).trans m2, T.cH, T.nPast, rfl, _, rfl, _, rfl, pa, _, rfl, SqL.of upd_same, fun u hu => ?_⟩
      have uh : u ≠ h := fun z => by rw [z, upd_ne hp, m2] at hu; cases hu
      have up : u ≠ pa := fun z => by rw [z, upd_same] at hu; cases hu
      rw [upd_ne up] at hu
      refine ⟨_, rfl, h, C.Hi, dx, _, rfl, (upd_ne (Ne.symm uh)).trans ((upd_ne hp).trans m2), T.cH, T.nPast, (by show 3 < 1000; decide), ?_⟩
      refine ⟨Nat.zero_le _, fun v hv' => ?_⟩
      have vh : v ≠ h := fun z => by rw [z, upd_same] at hv'; cases hv'
      rw [upd_ne vh] at hv'
      have vu : v ≠ u := fun z => by rw [z, upd_same] at hv'; cases hv'
      rw [upd_ne vu] at hv'
      have vp : v ≠ pa := fun z => by rw [z, upd_same] at hv'; cases hv'
      rw [upd_ne vp] at hv'
      refine ⟨_, rfl, h, C.Hi, dx, _, rfl, (upd_ne (Ne.symm vh)).trans upd_same, T.cH, T.nFuture, (by show 3 < 1000; decide), ?_⟩
      refine ⟨_, rfl, _, rfl, h, C.Hi, dx, _, rfl, upd_same, T.cH, T.nShaft, (by show 3 < 1000; decide), ?_⟩
      refine ⟨_, rfl, ?_⟩
      rw [hv, hd] at hk
      have keep : ∀ (u1 u2 u3 u4 u5 u6 : HO) (b : Addr) (z : HO), H2 b = some z → b ≠ h → b ≠ pa → upd (upd (upd (upd (upd (upd H2 pa u1) u u2) h u3) v u4) h u5) h u6 b = some z := fun u1 u2 u3 u4 u5 u6 b z e ne np => by
        have bu : b ≠ u := fun y => by rw [← y, e] at hu; cases hu
        have bv : b ≠ v := fun y => by rw [← y, e] at hv'; cases hv'
        rw [upd_ne ne, upd_ne ne, upd_ne bv, upd_ne ne, upd_ne bu, upd_ne np]
        exact e
      have fr : ∀ x ∈ adr t o', H x = none := R2.fr
      have xh : ∀ x ∈ X, x ≠ h := fun x hx z => I.xh (by rw [← z]; exact hx)
      have xp : ∀ x ∈ X, x ≠ pa := fun x hx z => I.xp (by rw [← z]; exact hx)
      have sg : Same HS (ghost (adr t o') H2 HS) := fun b z e => by
        by_cases y : b ∈ adr t o'
        · have := fr b y
          rw [I.sm b z e] at this; cases this
        · rw [ghost_out y]; exact e
      have na : ∀ b, b ∈ adr t o' → ∀ z, H b = some z → False := fun b hb z e => by have := fr b hb; rw [e] at this; cases this
      refine hk _ ⟨ghost (adr t o') H2 HS, dx, u, v, .ref t, (ps ++ [a]).drop ((ps ++ [a]).length - 30), [], upd_same.trans rfl, ?_, ?_, ?_, ?_, ?_, ?_, Ne.symm vu, I.xh, ?_, ?_, ?_, ?_, ?_⟩ ?_
      · rw [upd_ne uh, upd_ne uh, upd_ne (Ne.symm vu), upd_ne uh, upd_same]
        show some (HO.lst (cutV (ps.map V.ref ++ [V.ref a]) (some (-30)) none)) = _
        have e1 : ps.map V.ref ++ [V.ref a] = (ps ++ [a]).map V.ref := by rw [List.map_append]; rfl
        rw [e1, cut_last, List.length_map, List.map_drop]
      · rw [upd_ne vh, upd_ne vh, upd_same]
        rfl
      · intro b z e
        by_cases y : b ∈ adr t o'
        · rw [ghost_in y] at e
          exact keep _ _ _ _ _ _ b z e (fun w' => na b y _ (by rw [w']; exact I.me)) (fun w' => na b y _ (by rw [w']; exact I.pl))
        · rw [ghost_out y] at e
          exact keep _ _ _ _ _ _ b z (s2 _ _ (I.sm _ _ e)) (ne_of_none e I.nh) (ne_of_none e I.np)
      · rw [ghost_out (fun y => na h y _ I.me)]; exact I.nh
      · have y : u ∉ adr t o' := fun y => by
          obtain ⟨z, e⟩ := R2.sh.there y
          rw [e] at hu; cases hu
        rw [ghost_out y]
        exact I.sm.free (s2.free hu)
      · have y : v ∉ adr t o' := fun y => by
          obtain ⟨z, e⟩ := R2.sh.there y
          rw [e] at hv'; cases hv'
        rw [ghost_out y]
        exact I.sm.free (s2.free hv')
      · intro y
        obtain ⟨z, e⟩ := I.xt u y
        rw [s2 _ _ e] at hu; cases hu
      · intro y
        obtain ⟨z, e⟩ := I.xt v y
        rw [s2 _ _ e] at hv'; cases hv'
      · intro x hx
        obtain ⟨z, e⟩ := I.xt x hx
        rw [ghost_out (fun y => na x y _ e)]
        exact I.xn x hx
      · intro x hx
        obtain ⟨z, e⟩ := I.xt x hx
        exact ⟨z, keep _ _ _ _ _ _ x z (s2 _ _ e) (xh x hx) (xp x hx)⟩
      · refine ⟨t, rfl, ⟨chg_good Sn.good _ hch, o', R2.sh.cong fun x hx z e => by rw [ghost_in hx]; exact e⟩, ?_, Al.nil, ?_⟩
        · show Al _ _ ((d.now :: d.past).take 30).reverse
          rw [past_rev]
          have Ap2 : Al (Sh C (ghost (adr t o') H2 HS)) (ps ++ [a]) (d.past.reverse ++ [d.now]) := Al.snoc (Al.map_same Ap sg) (Sn.same sg)
          rw [Ap2.len]
          exact Ap2.drop _
        · show ((d.now :: d.past).take 30).length + 0 ≤ 30
          rw [List.length_take]
          omega
      · intro x hx z e
        exact keep _ _ _ _ _ _ x z (s2 _ _ e) (xh x hx) (xp x hx)
    · have q := dF q
      rw [if_pos (by omega)] at ea
      have hv : (Km413.act d (c ns)).2.value = r := by rw [ea]; exact er.symm
      have hd : (Km413.act d (c ns)).1 = d := by rw [ea]
      refine ⟨_, rfl, ?_⟩
      rw [hv, hd] at hk
      exact hk H2 (HiAt.same ⟨HS, dx, pa, fa, .ref a, ps, fs, I⟩ s2) (Kept.of s2)
end
end Ms
set_option Elab.async false
set_option linter.all false
set_option maxRecDepth 100000
set_option maxHeartbeats 4000000
namespace Ms
open PySem PySem.Spec PyProof.Rows L2
section
variable {P : Program} {w : World} {K : PySem.W.Frag} {mg : Str → Option Value} {base : Heap} {C : Ad} {f f1 f2 f3 : Addr} {fd fd1 fd2 fd3 : FuncData}
/-! ### ask -/
def spAskH (P : Program) (w : World) (K : PySem.W.Frag) (mg : Str → Option Value) (base : Heap) (C : Ad) : Sp := fun vs H Q _ => ∃ (h g l : Addr) (X : List Addr) (d : Dsk) (n : Nat) (ns : List Nat) (c : List Nat → Km413.Call), vs = [.ref h, .ref g, .ref l] ∧ HiAt C X H h (some d) ∧ SqL K H l (ns.map vN) ∧ ns.length = n ∧ n ≤ 3 ∧
  Fa P w K mg base 9 g (spAsk C n c) ∧ ∀ (H' : Hp) (q : Addr), HiAt C X H' h (some d) → Kept X H H' → q ∉ X → H' q = some (.lst ((askN d.now (c ns)).map V.int)) → Q (.ref q) H'
theorem sc_ask : FnScope ["history", "question", "numbers"] ["history", "question", "numbers"] (defScope t_ask) := ⟨rfl, rfl, rfl, by decide +kernel, rfl, by decide +kernel, by decide +kernel⟩
theorem ok_ask (T : Txt K mg C) (D : Df K mg "ask" t_ask ["history", "question", "numbers"] f fd) (GO : Kn P w K mg base 10 "carry_out" ["call", "shaft", "numbers"] (spCarry P w K mg base 9) f1 fd1) :
    Kn P w K mg base 11 "ask" ["history", "question", "numbers"] (spAskH P w K mg base C) f fd := by
  refine D.kn (D.fn.ok sc_ask (fun vs H Q E h => ?_) (fun cdv A outer s H vs Q E hr h => ?_))
  · obtain ⟨h, g, l, X, d, n, ns, c, rfl, _⟩ := h
    rfl
  · obtain ⟨h, g, l, X, d, n, ns, c, rfl, A0, hl, hn, h3, G, hk⟩ := h
    have A1 := A0
    obtain ⟨HS, dx, pa, fa, sv, ps, fs, I⟩ := A0
    obtain ⟨a, rfl, Sn, Ap, Af, h30⟩ := I.st
    refine ⟨_, pss_one (ps_ret (pe_fn GO hr (pa_cons (pv 1) (pa_cons (pe_fld (pv 0) rfl) (pa_cons (pv 2) pa_nil))))), ?_⟩
    refine ⟨_, rfl, _, rfl, h, C.Hi, dx, _, _, rfl, I.me, T.cH, T.nShaft, rfl, _, rfl, g, a, l, ns, _, rfl, hl, by omega, G, a, d.now, ns, rfl, hn, Sn.same I.sm, fun H' p s' hp h' => ?_⟩
    refine hk H' p (A1.same s') (Kept.of s') (fun q => ?_) h'
    obtain ⟨o, e⟩ := I.xt p q
    rw [hp] at e
    cases e
/-! ### going over -/
def spOver (C : Ad) : Sp := fun vs H Q _ => ∃ (h sa ta a dx pa fa : Addr) (ss ts : List Addr), vs = [.ref h, .ref sa, .ref ta] ∧ H h = some (.ins C.Hi dx (hiF (.ref a) pa fa)) ∧ H sa = some (.lst (ss.map V.ref)) ∧ H ta = some (.lst (ts.map V.ref)) ∧ sa ≠ ta ∧ ts.length ≤ 1000 ∧
  (ss = [] → Q (.int (-2)) H) ∧ ∀ (r : List Addr) (x : Addr), ss = r ++ [x] → Q (vN r.length) (upd (upd (upd H ta (.lst ((ts ++ [a]).map V.ref))) sa (.lst (r.map V.ref))) h (.ins C.Hi dx (hiF (.ref x) pa fa)))
theorem sc_over : FnScope ["history", "source", "target"] ["history", "source", "target"] (defScope t_go_over) := ⟨rfl, rfl, rfl, by decide +kernel, rfl, by decide +kernel, by decide +kernel⟩
theorem ok_over (T : Txt K mg C) (D : Df K mg "go_over" t_go_over ["history", "source", "target"] f fd) : Kn P w K mg base 1 "go_over" ["history", "source", "target"] (spOver C) f fd := by
  refine D.kn (D.fn.ok sc_over (fun vs H Q E h => ?_) (fun cdv A outer s H vs Q E hr h => ?_))
  · obtain ⟨h, sa, ta, a, dx, pa, fa, ss, ts, rfl, _⟩ := h
    rfl
  · obtain ⟨h, sa, ta, a, dx, pa, fa, ss, ts, rfl, hh, hs, ht, st, hz, k0, k1⟩ := h
    have hsa : h ≠ sa := ne_of hh hs (by intro z; cases z)
    have hta : h ≠ ta := ne_of hh ht (by intro z; cases z)
    refine ⟨_, pss_cons (ps_if (pt_cmpR op_eq (pe_callB call_len_seq (by rfl) T.bLen bootLen (pa_cons (pv 1) pa_nil)) pe_int (nomark _)) (pss_one (ps_ret (pe_cst T.kMISSING rfl))) pss_nil)
      (pss_cons (ps_expr (pe_bm PySem.F.plainAttrs_list PySem.F.slot_list_append PySem.F.type_list_append mt_append (pv 2) (pa_cons (pe_fld (pv 0) rfl) pa_nil)))
      (pss_cons (ps_fld (pv 0) (pe_bm0 PySem.F.plainAttrs_list PySem.F.slot_list_pop PySem.F.type_list_pop mt_pop (pv 1)) rfl)
      (pss_one (ps_ret (pe_callB call_len_seq (by rfl) T.bLen bootLen (pa_cons (pv 1) pa_nil)))))), ?_⟩
    refine ⟨_, rfl, sa, _, rfl, .inl (SqL.of hs), rfl, _, rfl, ite2 (fun q => ?_) (fun q => ?_)⟩
    · have q : (((ss.map V.ref).length : Nat) : Int) = 0 := vInj (dT q)
      rw [List.length_map] at q
      exact k0 (List.length_eq_zero_iff.mp (by omega))
    have hne : ss ≠ [] := fun z => by
      rw [z] at q
      exact absurd (decide_eq_true rfl) q
    have es : ss = ss.dropLast ++ [ss.getLast hne] := (List.dropLast_concat_getLast hne).symm
    generalize ss.dropLast = r at es
    generalize ss.getLast hne = x at es
    have kk := k1 r x es
    subst es
    refine ⟨_, rfl, .inl ⟨rfl, _, SqL.of ht⟩, _, rfl, h, C.Hi, dx, _, _, rfl, hh, T.cH, T.nShaft, rfl, ta, _, _, rfl, rfl, ht, ?_, ?_⟩
    · rw [List.length_map]
      exact lt_line hz
    have e1 : ts.map V.ref ++ [V.ref a] = (ts ++ [a]).map V.ref := by rw [List.map_append]; rfl
    rw [e1]
    have hs1 : upd H ta (.lst ((ts ++ [a]).map V.ref)) sa = some (.lst ((r ++ [x]).map V.ref)) := (upd_ne st).trans hs
    refine ⟨_, rfl, .inl ⟨rfl, _, SqL.of hs1⟩, sa, _, V.ref x, rfl, rfl, hs1, ?_, ?_⟩
    · rw [List.length_map, List.length_append, List.getElem?_map]
      show Option.map V.ref (r ++ [x])[r.length + 1 - 1]? = _
      rw [Nat.add_sub_cancel, List.getElem?_concat_length]
      rfl
    have e2 : ((r ++ [x]).map V.ref).dropLast = r.map V.ref := by rw [List.map_append]; exact List.dropLast_concat
    rw [e2]
    refine ⟨_, rfl, h, C.Hi, dx, _, rfl, (upd_ne hsa).trans ((upd_ne hta).trans hh), T.cH, T.nShaft, (by show 3 < 1000; decide), ?_⟩
    refine ⟨_, rfl, sa, _, rfl, .inl (SqL.of ((upd_ne (Ne.symm hsa)).trans upd_same)), ?_⟩
    rw [List.length_map]
    exact kk
/-- the history's own two lists and its shaft change -/
theorem HiIn.turn {X : List Addr} {H H3 : Hp} {h : Addr} {S S2 : Option Dsk} {HS : Hp} {dx pa fa : Addr} {sv sv2 : V} {ps fs ps2 fs2 : List Addr} (I : HiIn C X H h S HS dx pa fa sv ps fs)
    (me : H3 h = some (.ins C.Hi dx (hiF sv2 pa fa))) (pl : H3 pa = some (.lst (ps2.map V.ref))) (fl : H3 fa = some (.lst (fs2.map V.ref))) (kp : ∀ b o, H b = some o → b ≠ h → b ≠ pa → b ≠ fa → H3 b = some o) (st : HiSt C HS sv2 ps2 fs2 S2) :
    HiAt C X H3 h S2 ∧ Kept X H H3 := by
  have kx : ∀ x ∈ X, ∀ o, H x = some o → H3 x = some o := fun x hx o e => kp x o e (fun z => I.xh (by rw [← z]; exact hx)) (fun z => I.xp (by rw [← z]; exact hx)) (fun z => I.xf (by rw [← z]; exact hx))
  refine ⟨⟨HS, dx, pa, fa, sv2, ps2, fs2, me, pl, fl, fun b o e => kp b o (I.sm b o e) (ne_of_none e I.nh) (ne_of_none e I.np) (ne_of_none e I.nf), I.nh, I.np, I.nf, I.pf, I.xh, I.xp, I.xf, I.xn, fun x hx => ?_, st⟩, kx⟩
  obtain ⟨o, e⟩ := I.xt x hx
  exact ⟨o, kx x hx o e⟩
/-- the last of pairs -/
theorem Al.last {α β : Type} {F : α → β → Prop} {l : List α} {m : List β} {b : β} (A : Al F l (m ++ [b])) : ∃ l' a, l = l' ++ [a] ∧ Al F l' m ∧ F a b := by
  have hl := A.len
  rw [List.length_append] at hl
  have hl : l.length = m.length + 1 := hl
  have hne : l ≠ [] := fun z => by rw [z] at hl; cases hl
  have es : l.dropLast ++ [l.getLast hne] = l := List.dropLast_concat_getLast hne
  have el : l.dropLast.length = m.length := by rw [List.length_dropLast]; omega
  generalize l.dropLast = l' at es el
  generalize l.getLast hne = a at es
  subst es
  refine ⟨l', a, rfl, ⟨el, fun i x y hx hy => ?_⟩, ?_⟩
  · have hi : i < m.length := (List.getElem?_eq_some_iff.mp hy).1
    refine A.at_ i x y ?_ ?_
    · rw [List.getElem?_append_left (by omega)]; exact hx
    · rw [List.getElem?_append_left hi]; exact hy
  · refine A.at_ m.length _ _ ?_ ?_
    · rw [← el, List.getElem?_concat_length]
    · rw [List.getElem?_concat_length]
def spTurn (C : Ad) (c : Km413.Call) : Sp := fun vs H Q _ => ∃ (h : Addr) (X : List Addr) (d : Dsk), vs = [.ref h] ∧ HiAt C X H h (some d) ∧ ∀ H', HiAt C X H' h (some (Km413.act d c).1) → Kept X H H' → Q (.int (Km413.act d c).2.value) H'
theorem sc_back : FnScope ["history"] ["history"] (defScope t_sh_back) := ⟨rfl, rfl, rfl, by decide +kernel, rfl, by decide +kernel, by decide +kernel⟩
theorem ok_sh_back (T : Txt K mg C) (D : Df K mg "sh_back" t_sh_back ["history"] f fd) (G : Kn P w K mg base 1 "go_over" ["history", "source", "target"] (spOver C) f1 fd1) : Kn P w K mg base 2 "sh_back" ["history"] (spTurn C .back) f fd := by
  refine D.kn (D.fn.ok sc_back (fun vs H Q E h => ?_) (fun cdv A outer s H vs Q E hr h => ?_))
  · obtain ⟨h, X, d, rfl, _⟩ := h
    rfl
  · obtain ⟨h, X, d, rfl, A0, hk⟩ := h
    have A1 := A0
    obtain ⟨HS, dx, pa, fa, sv, ps, fs, I⟩ := A0
    obtain ⟨a, rfl, Sn, Ap, Af, h30⟩ := I.st
    refine ⟨_, pss_one (ps_ret (pe_fn G hr (pa_cons (pv 0) (pa_cons (pe_fld (pv 0) rfl) (pa_cons (pe_fld (pv 0) rfl) pa_nil))))), ?_⟩
    have lf : fs.length = d.future.length := by rw [Af.len, List.length_reverse]
    have hp : h ≠ pa := ne_of I.me I.pl (by intro z; cases z)
    have hf : h ≠ fa := ne_of I.me I.fl (by intro z; cases z)
    refine ⟨_, rfl, _, rfl, h, C.Hi, dx, _, _, rfl, I.me, T.cH, T.nPast, rfl, _, rfl, h, C.Hi, dx, _, _, rfl, I.me, T.cH, T.nFuture, rfl,
      h, pa, fa, a, dx, pa, fa, ps, fs, rfl, I.me, I.pl, I.fl, I.pf, by omega, fun z => ?_, fun r x z => ?_⟩
    · have ep : d.past = [] := by
        have := Ap.len
        rw [z, List.length_reverse] at this
        exact List.length_eq_zero_iff.mp this.symm
      have e : Km413.act d .back = (d, Km413.only (-2)) := by unfold Km413.act; rw [ep]
      rw [e] at hk
      exact hk H A1 (Kept.of (Same.refl _))
    · cases ep : d.past with
      | nil =>
        have := Ap.len
        rw [z, ep] at this
        simp at this
      | cons k t =>
        have e : Km413.act d .back = (⟨k, t, d.now :: d.future⟩, Km413.only ((t.length : Nat) : Int)) := by unfold Km413.act; rw [ep]
        rw [e] at hk
        rw [ep, List.reverse_cons] at Ap
        obtain ⟨r', x', e1, Ar, Sx⟩ := Ap.last
        rw [z] at e1
        obtain ⟨rfl, e3⟩ := List.append_inj' e1 rfl
        injection e3 with e3 _
        subst e3
        have lr : r.length = t.length := by rw [Ar.len, List.length_reverse]
        rw [lr]
        obtain ⟨A2, K2⟩ := I.turn (ps2 := r) (fs2 := fs ++ [a]) (sv2 := .ref x) (S2 := some ⟨k, t, d.now :: d.future⟩) (H3 := upd (upd (upd H fa (.lst ((fs ++ [a]).map V.ref))) pa (.lst (r.map V.ref))) h (.ins C.Hi dx (hiF (.ref x) pa fa)))
          upd_same ((upd_ne (Ne.symm hp)).trans upd_same) ((upd_ne (Ne.symm hf)).trans ((upd_ne (Ne.symm I.pf)).trans upd_same)) (fun b o eb n1 n2 n3 => by rw [upd_ne n1, upd_ne n2, upd_ne n3]; exact eb)
          ⟨x, rfl, Sx, Ar, by rw [show (Km413.Desk.mk k t (d.now :: d.future)).future.reverse = d.future.reverse ++ [d.now] from List.reverse_cons]; exact Al.snoc Af Sn, by
            show t.length + (d.now :: d.future).length ≤ 30
            rw [ep] at h30
            simp only [List.length_cons] at h30 ⊢
            omega⟩
        exact hk _ A2 K2
theorem sc_again : FnScope ["history"] ["history"] (defScope t_sh_again) := ⟨rfl, rfl, rfl, by decide +kernel, rfl, by decide +kernel, by decide +kernel⟩
theorem ok_sh_again (T : Txt K mg C) (D : Df K mg "sh_again" t_sh_again ["history"] f fd) (G : Kn P w K mg base 1 "go_over" ["history", "source", "target"] (spOver C) f1 fd1) : Kn P w K mg base 2 "sh_again" ["history"] (spTurn C .again) f fd := by
  refine D.kn (D.fn.ok sc_again (fun vs H Q E h => ?_) (fun cdv A outer s H vs Q E hr h => ?_))
  · obtain ⟨h, X, d, rfl, _⟩ := h
    rfl
  · obtain ⟨h, X, d, rfl, A0, hk⟩ := h
    have A1 := A0
    obtain ⟨HS, dx, pa, fa, sv, ps, fs, I⟩ := A0
    obtain ⟨a, rfl, Sn, Ap, Af, h30⟩ := I.st
    refine ⟨_, pss_one (ps_ret (pe_fn G hr (pa_cons (pv 0) (pa_cons (pe_fld (pv 0) rfl) (pa_cons (pe_fld (pv 0) rfl) pa_nil))))), ?_⟩
    have lp : ps.length = d.past.length := by rw [Ap.len, List.length_reverse]
    have hp : h ≠ pa := ne_of I.me I.pl (by intro z; cases z)
    have hf : h ≠ fa := ne_of I.me I.fl (by intro z; cases z)
    refine ⟨_, rfl, _, rfl, h, C.Hi, dx, _, _, rfl, I.me, T.cH, T.nFuture, rfl, _, rfl, h, C.Hi, dx, _, _, rfl, I.me, T.cH, T.nPast, rfl,
      h, fa, pa, a, dx, pa, fa, fs, ps, rfl, I.me, I.fl, I.pl, Ne.symm I.pf, by omega, fun z => ?_, fun r x z => ?_⟩
    · have ep : d.future = [] := by
        have := Af.len
        rw [z, List.length_reverse] at this
        exact List.length_eq_zero_iff.mp this.symm
      have e : Km413.act d .again = (d, Km413.only (-2)) := by unfold Km413.act; rw [ep]
      rw [e] at hk
      exact hk H A1 (Kept.of (Same.refl _))
    · cases ep : d.future with
      | nil =>
        have := Af.len
        rw [z, ep] at this
        simp at this
      | cons k t =>
        have h31 : d.past.length + (t.length + 1) ≤ 30 := by
          rw [ep, List.length_cons] at h30
          exact h30
        have et : (d.now :: d.past).take Km413.PAST = d.now :: d.past := List.take_of_length_le (by
          show (d.now :: d.past).length ≤ 30
          rw [List.length_cons]
          omega)
        have e : Km413.act d .again = (⟨k, d.now :: d.past, t⟩, Km413.only ((t.length : Nat) : Int)) := by
          unfold Km413.act
          rw [ep]
          dsimp only
          rw [et]
        rw [e] at hk
        rw [ep, List.reverse_cons] at Af
        obtain ⟨r', x', e1, Ar, Sx⟩ := Af.last
        rw [z] at e1
        obtain ⟨rfl, e3⟩ := List.append_inj' e1 rfl
        injection e3 with e3 _
        subst e3
        have lr : r.length = t.length := by rw [Ar.len, List.length_reverse]
        rw [lr]
        obtain ⟨A2, K2⟩ := I.turn (ps2 := ps ++ [a]) (fs2 := r) (sv2 := .ref x) (S2 := some ⟨k, d.now :: d.past, t⟩) (H3 := upd (upd (upd H pa (.lst ((ps ++ [a]).map V.ref))) fa (.lst (r.map V.ref))) h (.ins C.Hi dx (hiF (.ref x) pa fa)))
          upd_same ((upd_ne (Ne.symm hp)).trans ((upd_ne I.pf).trans upd_same)) ((upd_ne (Ne.symm hf)).trans upd_same) (fun b o eb n1 n2 n3 => by rw [upd_ne n1, upd_ne n3, upd_ne n2]; exact eb)
          ⟨x, rfl, Sx, by rw [show (Km413.Desk.mk k (d.now :: d.past) t).past.reverse = d.past.reverse ++ [d.now] from List.reverse_cons]; exact Al.snoc Ap Sn, Ar, by
            show (d.now :: d.past).length + t.length ≤ 30
            rw [List.length_cons]
            omega⟩
        exact hk _ A2 K2
/-! ### sh_state -/
def spState (C : Ad) : Sp := fun vs H Q _ => ∃ (h : Addr) (X : List Addr) (d : Dsk), vs = [.ref h] ∧ HiAt C X H h (some d) ∧ Told H (Km413Neutral.told (Km413.act d .state).2) Q
theorem sc_state : FnScope ["history", "shaft"] ["history"] (defScope t_sh_state) := ⟨rfl, rfl, rfl, by decide +kernel, rfl, by decide +kernel, by decide +kernel⟩
theorem ok_sh_state (T : Txt K mg C) (D : Df K mg "sh_state" t_sh_state ["history"] f fd) : Kn P w K mg base 1 "sh_state" ["history"] (spState C) f fd := by
  refine D.kn (D.fn.ok sc_state (fun vs H Q E h => ?_) (fun cdv A outer s H vs Q E hr h => ?_))
  · obtain ⟨h, X, d, rfl, _⟩ := h
    rfl
  · obtain ⟨h, X, d, rfl, A0, hk⟩ := h
    obtain ⟨HS, dx, pa, fa, sv, ps, fs, I⟩ := A0
    obtain ⟨a, rfl, Sn, Ap, Af, h30⟩ := I.st
    have hk : Told H [((d.now.time : Nat) : Int), ((d.now.levels.length : Nat) : Int), ((d.now.persons.length : Nat) : Int), ((d.now.locks.length : Nat) : Int), ((d.past.length : Nat) : Int), ((d.future.length : Nat) : Int)] Q := hk
    obtain ⟨o, S⟩ := (Sn.same I.sm).at_
    refine ⟨_, pss_cons (ps_set (i := 1) sc_state.nd rfl (Or.inl rfl) (pe_fld (pv 0) rfl))
      (pss_one (ps_ret (pe_lst (pa_cons (pe_fld (pv 1) rfl) (pa_cons (pe_op op_sub (pe_callB call_len_seq (by rfl) T.bLen bootLen (pa_cons (pe_fld (pv 1) rfl) pa_nil)) pe_int)
        (pa_cons (pe_callB call_len_seq (by rfl) T.bLen bootLen (pa_cons (pe_fld (pv 1) rfl) pa_nil)) (pa_cons (pe_callB call_len_seq (by rfl) T.bLen bootLen (pa_cons (pe_fld (pv 1) rfl) pa_nil))
        (pa_cons (pe_callB call_len_seq (by rfl) T.bLen bootLen (pa_cons (pe_fld (pv 0) rfl) pa_nil)) (pa_cons (pe_callB call_len_seq (by rfl) T.bLen bootLen (pa_cons (pe_fld (pv 0) rfl) pa_nil)) pa_nil))))))))), ?_⟩
    refine ⟨_, rfl, h, C.Hi, dx, _, _, rfl, I.me, T.cH, T.nShaft, rfl, ?_⟩
    refine ⟨_, rfl, a, C.S, o.dx, _, _, rfl, S.me, T.cS, T.nMinute, rfl, _, rfl, a, C.S, o.dx, _, _, rfl, S.me, T.cS, T.nLevels, rfl, o.la, _, rfl, .inl (SqL.of S.la), _, _, rfl, rfl,
      _, rfl, a, C.S, o.dx, _, _, rfl, S.me, T.cS, T.nPersons, rfl, o.pa, _, rfl, .inl (SqL.of S.pa), _, rfl, a, C.S, o.dx, _, _, rfl, S.me, T.cS, T.nLocks, rfl, o.ka, _, rfl, .inl (SqL.of S.ka),
      _, rfl, h, C.Hi, dx, _, _, rfl, I.me, T.cH, T.nPast, rfl, pa, _, rfl, .inl (SqL.of I.pl), _, rfl, h, C.Hi, dx, _, _, rfl, I.me, T.cH, T.nFuture, rfl, fa, _, rfl, .inl (SqL.of I.fl), (by show 6 ≤ sizeLine; decide), fun p hp => hk.put (Same.refl _) hp ?_⟩
    have hl := S.lv.len
    rw [List.length_cons] at hl
    have lp : ps.length = d.past.length := by rw [Ap.len, List.length_reverse]
    have lf : fs.length = d.future.length := by rw [Af.len, List.length_reverse]
    have e : ((((o.ls.map V.ref).length : Nat) : Int) - 1) = ((d.now.levels.length : Nat) : Int) := by
      rw [List.length_map, hl]
      omega
    show [vN d.now.time, V.int ((((o.ls.map V.ref).length : Nat) : Int) - 1), vN (o.ps.map V.ref).length, vN (o.ks.map V.ref).length, vN (ps.map V.ref).length, vN (fs.map V.ref).length] = _
    rw [e, List.length_map, List.length_map, List.length_map, List.length_map, S.ps.len, S.lk.len, lp, lf]
    rfl
end
end Ms
set_option Elab.async false
set_option linter.all false
set_option maxRecDepth 100000
set_option maxHeartbeats 4000000
namespace Ms
open PySem PySem.Spec PyProof.Rows L2
/-- how many numbers stand behind each call's own -/
def ars : List Nat := [3, 3, 0, 1, 1, 1, 1, 2, 2, 1, 0, 1, 0, 2, 2, 1, 0, 1, 0, 0, 0, 1, 0, 1, 1, 0, 0, 0, 0, 0]
theorem ars_all : ∀ m : Nat, m < 30 → PyKm413.shape (m : Int) = (ars[m]?).map fun n => (n, 0) := by decide
theorem ars_at {p n : Nat} (h : PyKm413.shape (p : Int) = some (n, 0)) : ars[p]? = some n := by
  obtain ⟨_, _, h2⟩ := shape_rows h
  rw [ars_all p (by omega)] at h
  cases q : ars[p]? with
  | none => rw [q] at h; cases h
  | some m =>
    rw [q] at h
    injection h with h
    injection h with h _
    rw [h]
/-- a tuple of the file's top -/
structure Tb (K : PySem.W.Frag) (mg : Str → Option Value) (nm : Str) (xs : List V) : Prop where
  ex : ∃ a, mg nm = some (.ref a) ∧ ∀ H, SqT K H a xs
theorem tb_mk {K : PySem.W.Frag} {mg : Str → Option Value} {nm : Str} {xs : List V} {a : Addr} {o : Obj} {its : Array Value} {n : Nat} (hm : mg nm = some (.ref a)) (hl : K.lookup a = some o) (hc : o.cls = .type "tuple") (hd : o.data = .seq its n) (hs : its.size ≤ sizeLine) (hv : Vals xs its.toList) :
    Tb K mg nm xs := ⟨a, hm, fun _ => .inr ⟨o, its, n, hl, hc, hd, hs, hv⟩⟩
/-- a list that is read: what of it stands in the heap -/
theorem seq_kept {K : PySem.W.Frag} {H : Hp} {a : Addr} {xs : List V} (h : SqL K H a xs) : ∃ X : List Addr, (∀ x ∈ X, ∃ o, H x = some o) ∧ ∀ H', Kept X H H' → SqL K H' a xs := by
  rcases h with (h | ⟨o, h⟩) | h
  · exact ⟨[a], fun x hx => by obtain rfl := List.mem_singleton.mp hx; exact ⟨_, h⟩, fun H' k => .inl (.inl (k a (List.mem_singleton.mpr rfl) _ h))⟩
  · exact ⟨[a], fun x hx => by obtain rfl := List.mem_singleton.mp hx; exact ⟨_, h⟩, fun H' k => .inl (.inr ⟨o, k a (List.mem_singleton.mpr rfl) _ h⟩)⟩
  · exact ⟨[], fun x hx => absurd hx List.not_mem_nil, fun H' _ => .inr h⟩
section
variable {P : Program} {w : World} {K : PySem.W.Frag} {mg : Str → Option Value} {base : Heap} {C : Ad} {f f1 f2 f3 : Addr} {fd fd1 fd2 fd3 : FuncData}
def spAnswer (K : PySem.W.Frag) (C : Ad) : Sp := fun vs H Q _ => ∃ (h : Addr) (X : List Addr) (S : Option Dsk) (p : Nat) (ks : List Nat) (l : Addr), vs = [.ref h, vN p, .ref l] ∧ HiAt C X H h S ∧ SqL K H l (ks.map vN) ∧ PyKm413.shape (p : Int) = some (ks.length, 0) ∧ (stepN S p ks).2 ≠ [] ∧
  ∀ (H' : Hp) (q : Addr), HiAt C X H' h (stepN S p ks).1 → Kept X H H' → q ∉ X → H' q = some (.lst ((stepN S p ks).2.map V.int)) → Q (.ref q) H'
/-- what the whole gives back -/
def spAnswers (K : PySem.W.Frag) : Sp := fun vs H Q _ => ∃ (a : Addr) (ks : List Nat) (out : List Int), vs = [.ref a] ∧ SqL K H a (ks.map vN) ∧ Rest none ks out ∧ out.length ≤ 10000000 ∧ ∀ (H' : Hp) (p : Addr), H' p = some (.lst (out.map V.int)) → Q (.ref p) H'
theorem sc_answers : FnScope ["calls", "history", "told", "at", "behind", "answer"] ["calls"] (defScope t_answers) := ⟨rfl, rfl, rfl, by decide +kernel, rfl, by decide +kernel, by decide +kernel⟩
theorem ok_answers (T : Txt K mg C) (TB : Tb K mg "NUMBERS_OF_CALL" (ars.map vN)) (D : Df K mg "answers" t_answers ["calls"] f fd) (GH : Kc P w K mg base 1 "History" ["self"] (spHistory C) C.Hi f1 fd1)
    (GA : Kn P w K mg base 12 "answer_to" ["history", "call", "numbers"] (spAnswer K C) f2 fd2) : Kn P w K mg base 13 "answers" ["calls"] (spAnswers K) f fd := by
  obtain ⟨nt, hnt, hNT⟩ := TB.ex
  refine D.kn (D.fn.ok sc_answers (fun vs H Q E h => ?_) (fun cdv A outer s H vs Q E hr h => ?_))
  · obtain ⟨a, ks, out, rfl, _⟩ := h
    rfl
  · obtain ⟨a, ks, out, rfl, hl, hrest, hlen, hk⟩ := h
    obtain ⟨X0, hX0, hseq⟩ := seq_kept hl
    refine ⟨_, pss_cons (ps_set (i := 1) sc_answers.nd rfl (Or.inl rfl) (pe_new0 GH hr))
      (pss_cons (ps_set (i := 2) sc_answers.nd rfl (Or.inl rfl) (pe_lst pa_nil))
      (pss_cons (ps_set (i := 3) sc_answers.nd rfl (Or.inl rfl) pe_int)
      (pss_cons (ps_while PassesOwn.never (pt_cmpR op_lt (pv 3) (pe_callB call_len_seq (by rfl) T.bLen bootLen (pa_cons (pv 0) pa_nil)) (nomark _))
        (pss_cons (ps_set (i := 4) sc_answers.nd rfl (Or.inl rfl) (pe_op op_add (pe_op op_add (pv 3) pe_int) (pe_ix ix_tup (pe_glob (v := .ref nt) (by rfl) hnt rfl) (pe_ix ix_list (pv 0) (pv 3) (fun _ _ => rfl)) (fun _ _ => rfl))))
        (pss_cons (ps_set (i := 5) sc_answers.nd rfl (Or.inl rfl) (pe_fn GA hr (pa_cons (pv 1) (pa_cons (pe_ix ix_list (pv 0) (pv 3) (fun _ _ => rfl)) (pa_cons (pe_slice sl_list (pv 0) (po_some (pe_op op_add (pv 3) pe_int)) (po_some (pv 4))) pa_nil)))))
        (pss_cons (ps_expr (pe_bm PySem.F.plainAttrs_list PySem.F.slot_list_append PySem.F.type_list_append mt_append (pv 2) (pa_cons (pe_callB call_len_seq (by rfl) T.bLen bootLen (pa_cons (pv 5) pa_nil)) pa_nil)))
        (pss_cons (ps_expr (pe_bm PySem.F.plainAttrs_list PySem.F.slot_list_extend PySem.F.type_list_extend mt_extend (pv 2) (pa_cons (pv 5) pa_nil)))
        (pss_one (ps_set (i := 3) sc_answers.nd rfl (Or.inl rfl) (pv 4))))))))
      (pss_one (ps_ret (pv 2)))))), ?_⟩
    intro h dh nh ndh _
    refine ⟨h, dh, X0, rfl, upd_same, fun x hx => ?_, fun H1 A1 k1 => ⟨rfl, ?_⟩⟩
    · obtain ⟨o, e⟩ := hX0 x hx
      have xh : x ≠ h := ne_of_none e nh
      have xd : x ≠ dh := ne_of_none e ndh
      exact ⟨xh, o, by rw [upd_ne xh, upd_ne xd]; exact e⟩
    have s1 : Same H H1 := made_same nh ndh k1
    refine ⟨Nat.zero_le _, fun t ht => ?_⟩
    have A2 := A1.more ht (.lst [])
    have s2 : Same H (upd H1 t (.lst [])) := s1.trans (Same.upd_new ht)
    refine ⟨fun m σ H' => ∃ (i : Nat) (done rest : List Int) (S : Option Dsk) (v4 v5 : Option V), m = ks.length - i ∧ i ≤ ks.length ∧ σ = [some (.ref a), some (.ref h), some (.ref t), some (vN i), v4, v5] ∧
        HiAt C (t :: X0) H' h S ∧ Kept X0 H H' ∧ H' t = some (.lst (done.map V.int)) ∧ Rest S (ks.drop i) rest ∧ out = done ++ rest,
      ⟨_, 0, [], out, none, none, none, rfl, Nat.zero_le _, rfl, A2, Kept.of s2, upd_same, hrest, rfl⟩, ?_⟩
    rintro m σ H' ⟨i, done, rest, S, v4, v5, rfl, hi, rfl, A3, K3, ht3, hrs, he⟩
    have hl3 := hseq H' K3
    refine ⟨_, rfl, _, rfl, a, _, rfl, .inl hl3, _, _, rfl, rfl, _, rfl, ite2 (fun q => ?_) (fun q => ?_)⟩
    · have q := dT q
      rw [List.length_map] at q
      have hlt : i < ks.length := by omega
      have ed : ks.drop i = ks[i] :: ks.drop (i + 1) := List.drop_eq_getElem_cons hlt
      rw [ed] at hrs
      obtain ⟨n, hsh, hn, hne, rest', hrs', ho⟩ := hrs.cons
      have hix : (ks.map vN)[i]? = some (vN ks[i]) := by rw [List.getElem?_map, List.getElem?_eq_getElem hlt]; rfl
      have har : (ars.map vN)[ks[i]]? = some (vN n) := by rw [List.getElem?_map, ars_at hsh]; rfl
      rw [List.length_drop] at hn
      have hz : (stepN S ks[i] ((ks.drop (i + 1)).take n)).2.length + done.length + 1 ≤ 10000000 := by
        rw [he, ho] at hlen
        simp only [List.length_append, List.length_cons] at hlen
        omega
      refine ⟨fun σ' H'' => ∃ (i' : Nat) (done rest : List Int) (S : Option Dsk) (v4 v5 : Option V), i < i' ∧ i' ≤ ks.length ∧ σ' = [some (.ref a), some (.ref h), some (.ref t), some (vN i'), v4, v5] ∧
          HiAt C (t :: X0) H'' h S ∧ Kept X0 H H'' ∧ H'' t = some (.lst (done.map V.int)) ∧ Rest S (ks.drop i') rest ∧ out = done ++ rest, ?_, ?_⟩
      · rintro σ' H'' ⟨i', done', rest'', S', w4, w5, h1, h2, h3⟩
        exact ⟨ks.length - i', by omega, i', done', rest'', S', w4, w5, rfl, h2, h3⟩
      -- behind
      refine ⟨_, rfl, _, _, rfl, rfl, _, rfl, _, rfl, a, _, _, _, rfl, rfl, hl3, atI_nat hix, nt, _, _, _, rfl, rfl, hNT _, atI_nat har, _, _, rfl, rfl, ?_⟩
      have eb : ((i : Nat) : Int) + 1 + ((n : Nat) : Int) = ((i + 1 + n : Nat) : Int) := by omega
      show tSeq _ _ _ (List.set _ 4 (some (V.int (((i : Nat) : Int) + 1 + ((n : Nat) : Int))))) _
      rw [eb]
      -- answer
      refine ⟨_, rfl, _, rfl, _, rfl, a, _, _, _, rfl, rfl, hl3, atI_nat hix, _, rfl, _, rfl, _, _, rfl, rfl, _, rfl, _, rfl, _, rfl, a, _, rfl, hl3, fun l hl' => ?_⟩
      have ec : cutV (ks.map vN) (some (((i : Nat) : Int) + 1)) (some ((i + 1 + n : Nat) : Int)) = ((ks.drop (i + 1)).take n).map vN := by
        rw [show ((i : Nat) : Int) + 1 = ((i + 1 : Nat) : Int) by omega, cut_mid, List.map_take, List.map_drop]
      have sl : Same H' (upd H' l (.lst (((ks.drop (i + 1)).take n).map vN))) := Same.upd_new hl'
      have lt_ : ((ks.drop (i + 1)).take n).length = n := by rw [List.length_take, List.length_drop]; omega
      refine ⟨h, t :: X0, S, ks[i], (ks.drop (i + 1)).take n, l, rfl, ?_, ?_, by rw [lt_]; exact hsh, hne, fun H4 q4 A4 K4 nq h4 => ?_⟩
      · show HiAt C (t :: X0) (upd H' l (.lst (cutV (ks.map vN) (some (((i : Nat) : Int) + 1)) (some ((i + 1 + n : Nat) : Int))))) h S
        rw [ec]
        exact A3.same sl
      · show SqL K (upd H' l (.lst (cutV (ks.map vN) (some (((i : Nat) : Int) + 1)) (some ((i + 1 + n : Nat) : Int))))) l _
        rw [ec]
        exact SqL.of upd_same
      have K4 : Kept (t :: X0) (upd H' l (.lst (((ks.drop (i + 1)).take n).map vN))) H4 := by rw [← ec]; exact K4
      have t4 : H4 t = some (.lst (done.map V.int)) := K4 t (List.mem_cons_self ..) _ (sl _ _ ht3)
      have K04 : Kept X0 H H4 := fun x hx o e => K4 x (List.mem_cons_of_mem _ hx) o (sl _ _ (K3 x hx o e))
      have qt : q4 ≠ t := fun z => nq (by rw [z]; exact List.mem_cons_self ..)
      have xt : ∀ x ∈ X0, x ≠ t := fun x hx z => by
        obtain ⟨o, e⟩ := hX0 x hx
        rw [z] at e
        rw [s1 _ _ e] at ht
        cases ht
      refine ⟨_, rfl, .inl ⟨rfl, _, SqL.of t4⟩, _, rfl, q4, _, rfl, .inl (SqL.of h4), t, _, _, rfl, rfl, t4, ?_, ?_⟩
      · rw [List.length_map, sizeLine_eq]
        omega
      refine ⟨_, rfl, .inl ⟨rfl, _, SqL.of upd_same⟩, _, rfl, t, q4, _, _, rfl, rfl, upd_same, (upd_ne qt).trans h4, ?_, ?_⟩
      · rw [List.length_append, List.length_map, List.length_map, sizeLine_eq]
        simp only [List.length_cons, List.length_nil]
        omega
      refine ⟨_, rfl, i + 1 + n, done ++ ((((stepN S ks[i] ((ks.drop (i + 1)).take n)).2.length : Nat) : Int) :: (stepN S ks[i] ((ks.drop (i + 1)).take n)).2), rest', _, _, _, by omega, by omega, rfl, (A4.touch (List.mem_cons_self ..) _).touch (List.mem_cons_self ..) _, ?_, ?_, ?_, ?_⟩
      · intro x hx o e
        rw [upd_ne (xt x hx), upd_ne (xt x hx)]
        exact K04 x hx o e
      · rw [upd_same, List.map_append, List.map_cons, List.length_map, List.append_assoc]
        rfl
      · rw [show ks.drop (i + 1 + n) = (ks.drop (i + 1)).drop n by rw [List.drop_drop]]
        exact hrs'
      · rw [he, ho, List.append_assoc]
    · have q := dF q
      rw [List.length_map] at q
      have e : i = ks.length := by omega
      subst e
      rw [List.drop_length] at hrs
      have e2 := hrs.nil
      subst e2
      rw [List.append_nil] at he
      subst he
      exact ⟨_, rfl, hk H' t ht3⟩
end
end Ms
set_option Elab.async false
set_option linter.all false
set_option maxRecDepth 100000
set_option maxHeartbeats 1000000
/-! ### what the top has written, fact by fact -/
namespace Ms
open PySem PySem.Spec PyProof.Rows L2
section
variable {K : PySem.W.Frag} {h : Heap} {mg : Str → Option Value}
theorem cst_mk {nm : Str} {z : Int} {t : Tok} (X : K.In h) (G : h.Ns mainGlobals mg) (e : PySem.W.nsIn K mainGlobals nm = some (some (.int z t))) : Cst mg nm z := ⟨t, PySem.W.mg_of X G e⟩
theorem df_mk {nm : Str} {st : Stmt} {ps : List Str} {f : Addr} {oc : Value} {od an : Option Addr} {osl : Array (Option Value)} {kV doc pm cdv ct : Value} (X : K.In h) (G : h.Ns mainGlobals mg) (a : PySem.W.nsIn K mainGlobals nm = some (some (.ref f)))
    (l : K.lookup f = some ⟨oc, od, .func (PySem.W.fnOf nm nm (defArgs st) (defBody st) (defScope st) .none kV doc pm an cdv ct), osl⟩) (c : PySem.W.codeIn K cdv nm = true) (k : PySem.W.keepIn K (.ref f) = true)
    (b : ∀ (kV doc pm : Value) (an : Option Addr) (cdv ct : Value) (us : List Value), us.length = ps.length → bindArgs (PySem.W.fnOf nm nm (defArgs st) (defBody st) (defScope st) .none kV doc pm an cdv ct) ⟨us, []⟩ = pure (ps.zip us)) :
    ∃ f fd, Df K mg nm st ps f fd := ⟨f, _, ⟨fun_mk l c k, PySem.W.mg_of X G a, (fun_mk l c k).binds b⟩⟩
/-- a class of the top -/
structure ClF (K : PySem.W.Frag) (mg : Str → Option Value) (nm qual : Str) (st : Stmt) (ps : List Str) (C : Addr) : Prop where
  cls : Cls K C
  dc : ∃ f fd, Dc K mg nm qual st ps C f fd
theorem clf_mk {nm qual : Str} {st : Stmt} {ps : List Str} {C f : Addr} {oc : Value} {od an : Option Addr} {osl : Array (Option Value)} {kV doc pm cdv ct : Value} (X : K.In h) (G : h.Ns mainGlobals mg) (a : PySem.W.nsIn K mainGlobals nm = some (some (.ref C)))
    (i : PySem.W.findIn K (.ref C) "__init__" = some (some (.ref f))) (ifn : PySem.W.isFn K (.ref f) = true)
    (l : K.lookup f = some ⟨oc, od, .func (PySem.W.fnOf "__init__" qual (defArgs st) (defBody st) (defScope st) .none kV doc pm an cdv ct), osl⟩) (c : PySem.W.codeIn K cdv qual = true) (k : PySem.W.keepIn K (.ref f) = true)
    (pg : PySem.W.plainGet K C Str.empty = true) (hd : PySem.W.hasDictIn K C = true) (po : PySem.W.plainOver K C = true) (sa : PySem.W.findIn K (.ref C) "__setattr__" = some (some (.builtin "object.__setattr__"))) (mk : PySem.W.makesIn K C = true) (kc : PySem.W.keepIn K (.ref C) = true)
    (b : ∀ (kV doc pm : Value) (an : Option Addr) (cdv ct : Value) (us : List Value), us.length = ps.length → bindArgs (PySem.W.fnOf "__init__" qual (defArgs st) (defBody st) (defScope st) .none kV doc pm an cdv ct) ⟨us, []⟩ = pure (ps.zip us)) :
    ClF K mg nm qual st ps C := ⟨⟨pg, hd, po, sa⟩, f, _, ⟨fun_mk l c k, PySem.W.mg_of X G a, ⟨mk, i, ifn, kc⟩, (fun_mk l c k).binds b⟩⟩
/-- the addresses of names of the top -/
inductive NmK (K : PySem.W.Frag) : List Str → List Addr → Prop
  | nil : NmK K [] []
  | cons {n : Str} {a : Addr} {ns : List Str} {as : List Addr} (h : PySem.W.nsIn K mainGlobals n = some (some (.ref a))) (r : NmK K ns as) : NmK K (n :: ns) (a :: as)
theorem vals_refs : ∀ as : List Addr, Vals (as.map V.ref) (as.map Value.ref)
  | [] => .nil
  | a :: as => .cons rfl (vals_refs as)
/-- a tuple of the top whose items are defs of the top -/
structure TbF (K : PySem.W.Frag) (mg : Str → Option Value) (nm : Str) (ns : List Str) : Prop where
  ex : ∃ as : List Addr, Tb K mg nm (as.map V.ref) ∧ Al (fun n a => mg n = some (.ref a)) ns as
theorem tbf_mk {nm : Str} {ns : List Str} {as : List Addr} {t : Addr} {od : Option Addr} {its : Array Value} {n : Nat} {osl : Array (Option Value)} (X : K.In h) (G : h.Ns mainGlobals mg) (a : PySem.W.nsIn K mainGlobals nm = some (some (.ref t)))
    (l : K.lookup t = some ⟨.type "tuple", od, .seq its n, osl⟩) (b : NmK K ns as) (e : its.toList = as.map Value.ref) (hs : its.size ≤ sizeLine) : TbF K mg nm ns := by
  refine ⟨as, tb_mk (PySem.W.mg_of X G a) l rfl rfl hs (by rw [e]; exact vals_refs as), ?_⟩
  clear e hs l a
  induction b with
  | nil => exact Al.nil
  | cons h r ih => exact Al.cons (PySem.W.mg_of X G h) ih
theorem TbF.at_ {nm : Str} {ns : List Str} (T : TbF K mg nm ns) : ∃ t, mg nm = some (.ref t) ∧ ∃ as : List Addr, (∀ H, SqT K H t (as.map V.ref)) ∧ ∀ (i : Nat) (n : Str) (f : Addr), ns[i]? = some n → mg n = some (.ref f) → (as.map V.ref)[i]? = some (V.ref f) := by
  obtain ⟨as, ⟨t, h1, h2⟩, A⟩ := T.ex
  refine ⟨t, h1, as, h2, fun i n f hn hf => ?_⟩
  obtain ⟨a, ha, e⟩ := A.get hn
  rw [hf] at e
  injection e with e
  injection e with e
  rw [List.getElem?_map, ha, e]
  rfl
theorem tbi_mk {nm : Str} {xs : List V} {t : Addr} {od : Option Addr} {its : Array Value} {n : Nat} {osl : Array (Option Value)} (X : K.In h) (G : h.Ns mainGlobals mg) (a : PySem.W.nsIn K mainGlobals nm = some (some (.ref t)))
    (l : K.lookup t = some ⟨.type "tuple", od, .seq its n, osl⟩) (hs : its.size ≤ sizeLine) (hv : Vals xs its.toList) : Tb K mg nm xs := tb_mk (PySem.W.mg_of X G a) l rfl rfl hs hv
end
end Ms
namespace Ms
open PySem PySem.Spec PyProof.Rows L2
open PySem.W (Codec)
theorem nat_list : ∀ (l : List Int), (∀ x ∈ l, 0 ≤ x) → ∃ ks : List Nat, l = ks.map fun (n : Nat) => (n : Int)
  | [], _ => ⟨[], rfl⟩
  | x :: l, h => by
    obtain ⟨ks, e⟩ := nat_list l fun y hy => h y (List.mem_cons_of_mem _ hy)
    have := h x (List.mem_cons_self ..)
    exact ⟨x.toNat :: ks, by rw [List.map_cons, ← e, Int.toNat_of_nonneg this]⟩
/-- the request: what the codecs and «asked» give -/
theorem spec_in {K : PySem.W.Frag} {H : Hp} {a : Addr} (l : List Int) (hs : SqL K H a (l.map V.int)) (hb : l.all (Codec.inInt 0 4294967295) = true) (hask : PyKm413.answers_asked l = true) {Q : VK} {E : XK}
    (hQ : ∀ (H' : Hp) (p : Addr), H' p = some (.lst ((PyKm413.answers l).map V.int)) → Q (.ref p) H') : spAnswers K [.ref a] H Q E := by
  obtain ⟨ks, e⟩ := nat_list l fun x hx => by
    have := List.all_eq_true.mp hb x hx
    unfold Codec.inInt at this
    simp at this
    exact this.1
  obtain ⟨h1, h2⟩ := rest_start e hask
  exact ⟨a, ks, _, rfl, by rw [e, map_vN] at hs; exact hs, h1, h2, hQ⟩
end Ms
set_option Elab.async false
set_option linter.all false
set_option maxRecDepth 100000
set_option maxHeartbeats 4000000
namespace Ms
open PySem PySem.Spec PyProof.Rows L2
/-! ### a step of the specification -/
theorem step_start (S : Option Dsk) (a b c : Nat) : stepN S 0 [a, b, c] = if Km413.okStart a b c = false then (S, [-22]) else (some ⟨Km413.opened a b c, [], []⟩, [0]) := by
  show Km413Neutral.step S [[0, (a : Int), (b : Int), (c : Int)]] = _
  unfold Km413Neutral.step
  have e : Km413Neutral.callOf [[0, (a : Int), (b : Int), (c : Int)]] = some (.start a b c) := rfl
  rw [e]
  cases S with
  | none =>
    show (if true = true then _ else _) = _
    rw [if_pos rfl]
    unfold Km413.act
    dsimp only
    by_cases h : Km413.okStart a b c = false
    · rw [if_pos h, if_pos h]; rfl
    · rw [if_neg h, if_neg h]; rfl
  | some d =>
    unfold Km413.act
    dsimp only
    by_cases h : Km413.okStart a b c = false
    · rw [if_pos h, if_pos h]; rfl
    · rw [if_neg h, if_neg h]; rfl
theorem step_some {d : Dsk} {p : Nat} {ks : List Nat} {x : Km413.Call} (e : Km413Neutral.callOf [(p : Int) :: ks.map fun (n : Nat) => (n : Int)] = some x) : stepN (some d) p ks = (some (Km413.act d x).1, Km413Neutral.told (Km413.act d x).2) := by
  unfold stepN Km413Neutral.step
  rw [e]
theorem step_none {S : Option Dsk} {p : Nat} {ks : List Nat} {x : Km413.Call} (e : Km413Neutral.callOf [(p : Int) :: ks.map fun (n : Nat) => (n : Int)] = some x) (hx : Km413Neutral.isStart x = false) (h : (stepN S p ks).2 ≠ []) : ∃ d, S = some d := by
  cases S with
  | some d => exact ⟨d, rfl⟩
  | none =>
    exfalso
    apply h
    unfold stepN Km413Neutral.step
    rw [e]
    show (if Km413Neutral.isStart x = true then _ else _ : Option Dsk × List Int).2 = []
    rw [hx]
    rfl
theorem chg_nostart {c : Km413.Call} (h : isChange c = true) : Km413Neutral.isStart c = false ∧ Km413.isStart c = false := by
  cases c <;> first | (cases h; done) | exact ⟨rfl, rfl⟩
theorem ask_nostart {c : Km413.Call} (h : isAsk c = true) : Km413Neutral.isStart c = false := by
  cases c <;> first | (cases h; done) | exact rfl
theorem chg_told {d : Dsk} {c : Km413.Call} (h : isChange c = true) : Km413Neutral.told (Km413.act d c).2 = [(Km413.act d c).2.value] := by
  have e := act_change d c h
  have o := chg_out d.now c h
  have e2 : (Km413.act d c).2 = (chg d.now c).2 := by
    rw [e]
    split <;> rfl
  rw [e2]
  unfold Km413Neutral.told
  rw [o]
  rfl
theorem back_told (d : Dsk) : Km413Neutral.told (Km413.act d .back).2 = [(Km413.act d .back).2.value] := by
  unfold Km413.act
  cases d.past <;> rfl
theorem again_told (d : Dsk) : Km413Neutral.told (Km413.act d .again).2 = [(Km413.act d .again).2.value] := by
  unfold Km413.act
  cases d.future <;> rfl
section
variable {C : Ad} {X : List Addr} {H H' : Hp} {h : Addr} {S : Option Dsk}
theorem HiAt.new (A : HiAt C X H h S) {q : Addr} (hq : H q = none) : q ∉ X := fun hx => by
  obtain ⟨HS, dx, pa, fa, sv, ps, fs, I⟩ := A
  obtain ⟨o, e⟩ := I.xt q hx
  rw [hq] at e
  cases e
theorem ans_put {r : List Int} {Q : VK} (hk : ∀ (H' : Hp) (q : Addr), HiAt C X H' h S → Kept X H H' → q ∉ X → H' q = some (.lst (r.map V.int)) → Q (.ref q) H') (A : HiAt C X H' h S) (K' : Kept X H H') {q : Addr} (hq : H' q = none) {xs : List V} (e : xs = r.map V.int) :
    Q (.ref q) (upd H' q (.lst xs)) := by
  subst e
  exact hk _ q (A.same (Same.upd_new hq)) (K'.trans (Kept.of (Same.upd_new hq))) (A.new hq) upd_same
end
/-- a call of a table: its def, how many numbers it takes, which call it is -/
structure Row (P : Program) (w : World) (K : PySem.W.Frag) (mg : Str → Option Value) (base : Heap) (sp : Nat → (List Nat → Km413.Call) → Sp) (ok : Km413.Call → Bool) (p : Nat) (nm : Str) : Prop where
  ex : ∃ f n c, mg nm = some (.ref f) ∧ Fa P w K mg base 9 f (sp n c) ∧ n ≤ 3 ∧ PyKm413.shape (p : Int) = some (n, 0) ∧ ∀ ns : List Nat, ns.length = n → ok (c ns) = true ∧ Km413Neutral.callOf [(p : Int) :: ns.map fun (n : Nat) => (n : Int)] = some (c ns)
def chgNames : List Str := ["sh_level", "sh_hire", "sh_board", "sh_leave", "sh_wind", "sh_wait", "sh_fan", "sh_mine", "sh_load", "sh_dump", "sh_rope", "sh_lock", "sh_open", "sh_shut"]
def askNames : List Str := ["sh_where", "sh_below", "sh_who", "sh_cage", "sh_need", "sh_next", "sh_gas", "sh_foul", "sh_long", "sh_may", "sh_ore", "sh_doors"]
section
variable {P : Program} {w : World} {K : PySem.W.Frag} {mg : Str → Option Value} {base : Heap} {C : Ad} {f f1 f2 f3 f4 f5 f6 : Addr} {fd fd1 fd2 fd3 fd4 fd5 fd6 : FuncData}
theorem sc_answer_to : FnScope ["history", "call", "numbers"] ["history", "call", "numbers"] (defScope t_answer_to) := ⟨rfl, rfl, rfl, by decide +kernel, rfl, by decide +kernel, by decide +kernel⟩
theorem ok_answer_to (T : Txt K mg C) (TC : TbF K mg "CHANGES" chgNames) (TQ : TbF K mg "QUESTIONS" askNames) (D : Df K mg "answer_to" t_answer_to ["history", "call", "numbers"] f fd)
    (GS : Kn P w K mg base 5 "sh_start" ["history", "room", "rope", "speed"] (spStart C) f1 fd1) (GM : Kn P w K mg base 11 "make_change" ["history", "change", "numbers"] (spMake P w K mg base C) f2 fd2) (GA : Kn P w K mg base 11 "ask" ["history", "question", "numbers"] (spAskH P w K mg base C) f3 fd3)
    (GB : Kn P w K mg base 2 "sh_back" ["history"] (spTurn C .back) f4 fd4) (GG : Kn P w K mg base 2 "sh_again" ["history"] (spTurn C .again) f5 fd5) (GT : Kn P w K mg base 1 "sh_state" ["history"] (spState C) f6 fd6)
    (RC : ∀ (i : Nat) (nm : Str), chgNames[i]? = some nm → Row P w K mg base (spChg C) isChange (i + 1) nm) (RQ : ∀ (i : Nat) (nm : Str), askNames[i]? = some nm → Row P w K mg base (spAsk C) isAsk (i + 15) nm) :
    Kn P w K mg base 12 "answer_to" ["history", "call", "numbers"] (spAnswer K C) f fd := by
  obtain ⟨tc, htc, asC, hTC, ixC⟩ := TC.at_
  obtain ⟨tq, htq, asQ, hTQ, ixQ⟩ := TQ.at_
  refine D.kn (D.fn.ok sc_answer_to (fun vs H Q E h => ?_) (fun cdv A outer s H vs Q E hr h => ?_))
  · obtain ⟨h, X, S, p, ks, l, rfl, _⟩ := h
    rfl
  · obtain ⟨h, X, S, p, ks, l, rfl, A0, hl, hsh, hne, hk⟩ := h
    refine ⟨_, pss_cons (ps_if (pt_cmpR op_eq (pv 1) (pe_cst T.kSTART rfl) (nomark _)) (pss_one (ps_ret (pe_lst (pa_cons (pe_fn GS hr (pa_cons (pv 0) (pa_cons (pe_ix ix_list (pv 2) pe_int (fun _ _ => rfl)) (pa_cons (pe_ix ix_list (pv 2) pe_int (fun _ _ => rfl)) (pa_cons (pe_ix ix_list (pv 2) pe_int (fun _ _ => rfl)) pa_nil))))) pa_nil)))) pss_nil)
      (pss_cons (ps_if (pt_cmpR op_lt (pv 1) (pe_cst T.kFIRST_QUESTION rfl) (nomark _)) (pss_one (ps_ret (pe_lst (pa_cons (pe_fn GM hr (pa_cons (pv 0) (pa_cons (pe_ix ix_tup (pe_glob (v := .ref tc) (by rfl) htc rfl) (pe_op op_sub (pv 1) (pe_cst T.kFIRST_CHANGE rfl)) (fun _ _ => rfl)) (pa_cons (pv 2) pa_nil)))) pa_nil)))) pss_nil)
      (pss_cons (ps_if (pt_cmpR op_lt (pv 1) (pe_cst T.kBACK rfl) (nomark _)) (pss_one (ps_ret (pe_fn GA hr (pa_cons (pv 0) (pa_cons (pe_ix ix_tup (pe_glob (v := .ref tq) (by rfl) htq rfl) (pe_op op_sub (pv 1) (pe_cst T.kFIRST_QUESTION rfl)) (fun _ _ => rfl)) (pa_cons (pv 2) pa_nil)))))) pss_nil)
      (pss_cons (ps_if (pt_cmpR op_eq (pv 1) (pe_cst T.kBACK rfl) (nomark _)) (pss_one (ps_ret (pe_lst (pa_cons (pe_fn GB hr (pa_cons (pv 0) pa_nil)) pa_nil)))) pss_nil)
      (pss_cons (ps_if (pt_cmpR op_eq (pv 1) (pe_cst T.kAGAIN rfl) (nomark _)) (pss_one (ps_ret (pe_lst (pa_cons (pe_fn GG hr (pa_cons (pv 0) pa_nil)) pa_nil)))) pss_nil)
      (pss_one (ps_ret (pe_fn GT hr (pa_cons (pv 0) pa_nil)))))))), ?_⟩
    obtain ⟨_, p0, p29⟩ := shape_rows hsh
    refine ⟨_, rfl, rfl, _, rfl, ite2 (fun c0 => ?_) (fun c0 => ?_)⟩
    · have c0 : ((p : Nat) : Int) = 0 := vInj (dT c0)
      obtain rfl : p = 0 := by omega
      have hn : ks.length = 3 := by
        have e : PyKm413.shape ((0 : Nat) : Int) = some (3, 0) := rfl
        rw [e] at hsh
        injection hsh with hsh
        injection hsh with hsh _
        exact hsh.symm
      obtain ⟨a, b, c, rfl⟩ := len3 hn
      rw [step_start] at hk
      refine ⟨_, rfl, _, rfl, l, _, 0, _, rfl, rfl, hl, atI_nat (j := 0) rfl, _, rfl, l, _, 1, _, rfl, rfl, hl, atI_nat (j := 1) rfl, _, rfl, l, _, 2, _, rfl, rfl, hl, atI_nat (j := 2) rfl, h, X, S, a, b, c, rfl, A0, fun no => ?_, fun yes H' A' K' => ?_⟩
      · rw [if_pos no] at hk
        exact ⟨(by show 1 ≤ sizeLine; decide), fun q hq => ans_put hk A0 (Kept.of (Same.refl _)) hq rfl⟩
      · rw [if_neg (by rw [yes]; decide)] at hk
        exact ⟨(by show 1 ≤ sizeLine; decide), fun q hq => ans_put hk A' K' hq rfl⟩
    have c0 : p ≠ 0 := fun z => dF c0 (congrArg V.int (show ((p : Nat) : Int) = 0 by omega))
    refine ⟨_, rfl, _, _, rfl, rfl, _, rfl, ite2 (fun c1 => ?_) (fun c1 => ?_)⟩
    · have c1 : ((p : Nat) : Int) < 15 := dT c1
      obtain ⟨i, rfl⟩ : ∃ i, p = i + 1 := ⟨p - 1, by omega⟩
      obtain ⟨nm, hnm⟩ := nth_some (l := chgNames) (n := i) (by show i < 14; omega)
      obtain ⟨g, n, c, hg, G, h3, hsh2, hc⟩ := (RC i nm hnm).ex
      rw [hsh2] at hsh
      have hn : ks.length = n := by
        injection hsh with hsh
        injection hsh with hsh _
        exact hsh.symm
      obtain ⟨hch, hcall⟩ := hc ks hn
      obtain ⟨d, rfl⟩ := step_none hcall (chg_nostart hch).1 hne
      rw [step_some hcall, chg_told hch] at hk
      have ei : ((i + 1 : Nat) : Int) - 1 = ((i : Nat) : Int) := by omega
      have hit := ixC i nm g hnm hg
      refine ⟨_, rfl, _, rfl, _, _, rfl, rfl, tc, _, _, V.ref g, rfl, rfl, hTC _, (by rw [ei]; exact atI_nat hit), _, rfl, h, g, l, X, d, n, ks, c, rfl, A0, hl, hn, h3, G, (chg_nostart hch).2, hch, fun H' A' K' => ?_⟩
      exact ⟨(by show 1 ≤ sizeLine; decide), fun q hq => ans_put hk A' K' hq rfl⟩
    have c1 : ¬ ((p : Nat) : Int) < 15 := dF c1
    refine ⟨_, rfl, _, _, rfl, rfl, _, rfl, ite2 (fun c2 => ?_) (fun c2 => ?_)⟩
    · have c2 : ((p : Nat) : Int) < 27 := dT c2
      obtain ⟨i, rfl⟩ : ∃ i, p = i + 15 := ⟨p - 15, by omega⟩
      obtain ⟨nm, hnm⟩ := nth_some (l := askNames) (n := i) (by show i < 12; omega)
      obtain ⟨g, n, c, hg, G, h3, hsh2, hc⟩ := (RQ i nm hnm).ex
      rw [hsh2] at hsh
      have hn : ks.length = n := by
        injection hsh with hsh
        injection hsh with hsh _
        exact hsh.symm
      obtain ⟨hch, hcall⟩ := hc ks hn
      obtain ⟨d, rfl⟩ := step_none hcall (ask_nostart hch) hne
      obtain ⟨e1, e2⟩ := act_ask d _ hch
      rw [step_some hcall, e1, e2] at hk
      have ei : ((i + 15 : Nat) : Int) - 15 = ((i : Nat) : Int) := by omega
      have hit := ixQ i nm g hnm hg
      exact ⟨_, rfl, _, rfl, _, _, rfl, rfl, tq, _, _, V.ref g, rfl, rfl, hTQ _, (by rw [ei]; exact atI_nat hit), _, rfl, h, g, l, X, d, n, ks, c, rfl, A0, hl, hn, h3, G, hk⟩
    have c2 : ¬ ((p : Nat) : Int) < 27 := dF c2
    have hk0 : ks = [] := by
      have e : ∀ m : Nat, m < 30 → 27 ≤ m → PyKm413.shape (m : Int) = some (0, 0) := by decide
      rw [e p (by omega) (by omega)] at hsh
      injection hsh with hsh
      injection hsh with hsh _
      exact List.length_eq_zero_iff.mp hsh.symm
    subst hk0
    refine ⟨_, rfl, rfl, _, rfl, ite2 (fun c3 => ?_) (fun c3 => ?_)⟩
    · have c3 : ((p : Nat) : Int) = 27 := vInj (dT c3)
      obtain rfl : p = 27 := by omega
      have hcall : Km413Neutral.callOf [((27 : Nat) : Int) :: ([] : List Nat).map fun (n : Nat) => (n : Int)] = some .back := rfl
      obtain ⟨d, rfl⟩ := step_none hcall rfl hne
      rw [step_some hcall, back_told] at hk
      exact ⟨_, rfl, h, X, d, rfl, A0, fun H' A' K' => ⟨(by show 1 ≤ sizeLine; decide), fun q hq => ans_put hk A' K' hq rfl⟩⟩
    have c3 : p ≠ 27 := fun z => dF c3 (congrArg V.int (show ((p : Nat) : Int) = 27 by omega))
    refine ⟨_, rfl, rfl, _, rfl, ite2 (fun c4 => ?_) (fun c4 => ?_)⟩
    · have c4 : ((p : Nat) : Int) = 28 := vInj (dT c4)
      obtain rfl : p = 28 := by omega
      have hcall : Km413Neutral.callOf [((28 : Nat) : Int) :: ([] : List Nat).map fun (n : Nat) => (n : Int)] = some .again := rfl
      obtain ⟨d, rfl⟩ := step_none hcall rfl hne
      rw [step_some hcall, again_told] at hk
      exact ⟨_, rfl, h, X, d, rfl, A0, fun H' A' K' => ⟨(by show 1 ≤ sizeLine; decide), fun q hq => ans_put hk A' K' hq rfl⟩⟩
    have c4 : p ≠ 28 := fun z => dF c4 (congrArg V.int (show ((p : Nat) : Int) = 28 by omega))
    obtain rfl : p = 29 := by omega
    have hcall : Km413Neutral.callOf [((29 : Nat) : Int) :: ([] : List Nat).map fun (n : Nat) => (n : Int)] = some .state := rfl
    obtain ⟨d, rfl⟩ := step_none hcall rfl hne
    rw [step_some hcall] at hk
    exact ⟨_, rfl, h, X, d, rfl, A0, fun H' q s' hq h' => hk H' q (A0.same s') (Kept.of s') (A0.new hq) h'⟩
end
end Ms
set_option Elab.async false
set_option linter.all false
set_option maxRecDepth 100000
set_option maxHeartbeats 4000000
namespace Ms
open PySem PySem.Spec PyProof.Rows L2
/-- the defs of the top -/
structure Defs (K : PySem.W.Frag) (mg : Str → Option Value) (C : Ad) : Prop where
  d_Level : ∃ f fd, Dc K mg "Level" "Level.__init__" tLevel ["self", "depth", "rate", "clears"] C.L f fd
  d_Person : ∃ f fd, Dc K mg "Person" "Person.__init__" tPerson ["self", "place", "since"] C.P f fd
  d_is_below : ∃ f fd, Df K mg "is_below" t_is_below ["person"] f fd
  d_is_foul : ∃ f fd, Df K mg "is_foul" t_is_foul ["level"] f fd
  d_gain_in_a_minute : ∃ f fd, Df K mg "gain_in_a_minute" t_gain_in_a_minute ["level"] f fd
  d_gas_after : ∃ f fd, Df K mg "gas_after" t_gas_after ["level", "minutes"] f fd
  d_persons_at : ∃ f fd, Df K mg "persons_at" t_persons_at ["shaft", "place"] f fd
  d_count_at : ∃ f fd, Df K mg "count_at" t_count_at ["shaft", "place"] f fd
  d_on_the_rope : ∃ f fd, Df K mg "on_the_rope" t_on_the_rope ["shaft"] f fd
  d_pass_minutes : ∃ f fd, Df K mg "pass_minutes" t_pass_minutes ["shaft", "minutes"] f fd
  d_copy_of_level : ∃ f fd, Df K mg "copy_of_level" t_copy_of_level ["level"] f fd
  d_Shaft : ∃ f fd, Dc K mg "Shaft" "Shaft.__init__" tShaft ["self", "room", "rope", "speed"] C.S f fd
  d_copy_of_shaft : ∃ f fd, Df K mg "copy_of_shaft" t_copy_of_shaft ["shaft"] f fd
  d_levels_of_those_below : ∃ f fd, Df K mg "levels_of_those_below" t_levels_of_those_below ["shaft"] f fd
  d_taken_along : ∃ f fd, Df K mg "taken_along" t_taken_along ["shaft"] f fd
  d_groups_to_fetch : ∃ f fd, Df K mg "groups_to_fetch" t_groups_to_fetch ["shaft"] f fd
  d_wear_to_fetch : ∃ f fd, Df K mg "wear_to_fetch" t_wear_to_fetch ["shaft", "group"] f fd
  d_needed : ∃ f fd, Df K mg "needed" t_needed ["shaft"] f fd
  d_is_safe : ∃ f fd, Df K mg "is_safe" t_is_safe ["shaft"] f fd
  d_is_level : ∃ f fd, Df K mg "is_level" t_is_level ["shaft", "number"] f fd
  d_sh_level : ∃ f fd, Df K mg "sh_level" t_sh_level ["shaft", "depth", "rate", "clears"] f fd
  d_sh_hire : ∃ f fd, Df K mg "sh_hire" t_sh_hire ["shaft"] f fd
  d_sh_board : ∃ f fd, Df K mg "sh_board" t_sh_board ["shaft", "number"] f fd
  d_sh_leave : ∃ f fd, Df K mg "sh_leave" t_sh_leave ["shaft", "number"] f fd
  d_metres_to : ∃ f fd, Df K mg "metres_to" t_metres_to ["shaft", "number"] f fd
  d_wear_to : ∃ f fd, Df K mg "wear_to" t_wear_to ["shaft", "number"] f fd
  d_move_cage : ∃ f fd, Df K mg "move_cage" t_move_cage ["shaft", "number"] f fd
  d_would_be_safe_at : ∃ f fd, Df K mg "would_be_safe_at" t_would_be_safe_at ["shaft", "number"] f fd
  d_winding_refusal : ∃ f fd, Df K mg "winding_refusal" t_winding_refusal ["shaft", "number"] f fd
  d_sh_wind : ∃ f fd, Df K mg "sh_wind" t_sh_wind ["shaft", "number"] f fd
  d_sh_wait : ∃ f fd, Df K mg "sh_wait" t_sh_wait ["shaft", "minutes"] f fd
  d_sh_fan : ∃ f fd, Df K mg "sh_fan" t_sh_fan ["shaft", "number", "fan"] f fd
  d_sh_mine : ∃ f fd, Df K mg "sh_mine" t_sh_mine ["shaft", "number", "kilograms"] f fd
  d_sh_load : ∃ f fd, Df K mg "sh_load" t_sh_load ["shaft", "kilograms"] f fd
  d_sh_dump : ∃ f fd, Df K mg "sh_dump" t_sh_dump ["shaft"] f fd
  d_sh_rope : ∃ f fd, Df K mg "sh_rope" t_sh_rope ["shaft", "rope"] f fd
  d_sh_lock : ∃ f fd, Df K mg "sh_lock" t_sh_lock ["shaft"] f fd
  d_door_refusal : ∃ f fd, Df K mg "door_refusal" t_door_refusal ["shaft", "lock", "side", "wanted"] f fd
  d_sh_open : ∃ f fd, Df K mg "sh_open" t_sh_open ["shaft", "lock", "side"] f fd
  d_sh_shut : ∃ f fd, Df K mg "sh_shut" t_sh_shut ["shaft", "lock", "side"] f fd
  d_as_bits : ∃ f fd, Df K mg "as_bits" t_as_bits ["numbers"] f fd
  d_counted : ∃ f fd, Df K mg "counted" t_counted ["numbers"] f fd
  d_sh_where : ∃ f fd, Df K mg "sh_where" t_sh_where ["shaft", "number"] f fd
  d_sh_below : ∃ f fd, Df K mg "sh_below" t_sh_below ["shaft"] f fd
  d_sh_who : ∃ f fd, Df K mg "sh_who" t_sh_who ["shaft", "number"] f fd
  d_sh_cage : ∃ f fd, Df K mg "sh_cage" t_sh_cage ["shaft"] f fd
  d_sh_need : ∃ f fd, Df K mg "sh_need" t_sh_need ["shaft"] f fd
  d_step_above_ground : ∃ f fd, Df K mg "step_above_ground" t_step_above_ground ["shaft"] f fd
  d_step_below_ground : ∃ f fd, Df K mg "step_below_ground" t_step_below_ground ["shaft"] f fd
  d_next_step : ∃ f fd, Df K mg "next_step" t_next_step ["shaft"] f fd
  d_sh_next : ∃ f fd, Df K mg "sh_next" t_sh_next ["shaft"] f fd
  d_warning_of : ∃ f fd, Df K mg "warning_of" t_warning_of ["level"] f fd
  d_sh_gas : ∃ f fd, Df K mg "sh_gas" t_sh_gas ["shaft", "number"] f fd
  d_sh_foul : ∃ f fd, Df K mg "sh_foul" t_sh_foul ["shaft"] f fd
  d_sh_long : ∃ f fd, Df K mg "sh_long" t_sh_long ["shaft", "minutes"] f fd
  d_sh_may : ∃ f fd, Df K mg "sh_may" t_sh_may ["shaft", "number"] f fd
  d_sh_ore : ∃ f fd, Df K mg "sh_ore" t_sh_ore ["shaft"] f fd
  d_locks_open_at : ∃ f fd, Df K mg "locks_open_at" t_locks_open_at ["shaft", "side"] f fd
  d_sh_doors : ∃ f fd, Df K mg "sh_doors" t_sh_doors ["shaft"] f fd
  d_History : ∃ f fd, Dc K mg "History" "History.__init__" tHistory ["self"] C.Hi f fd
  d_sh_start : ∃ f fd, Df K mg "sh_start" t_sh_start ["history", "room", "rope", "speed"] f fd
  d_carry_out : ∃ f fd, Df K mg "carry_out" t_carry_out ["call", "shaft", "numbers"] f fd
  d_make_change : ∃ f fd, Df K mg "make_change" t_make_change ["history", "change", "numbers"] f fd
  d_ask : ∃ f fd, Df K mg "ask" t_ask ["history", "question", "numbers"] f fd
  d_go_over : ∃ f fd, Df K mg "go_over" t_go_over ["history", "source", "target"] f fd
  d_sh_back : ∃ f fd, Df K mg "sh_back" t_sh_back ["history"] f fd
  d_sh_again : ∃ f fd, Df K mg "sh_again" t_sh_again ["history"] f fd
  d_sh_state : ∃ f fd, Df K mg "sh_state" t_sh_state ["history"] f fd
  d_answer_to : ∃ f fd, Df K mg "answer_to" t_answer_to ["history", "call", "numbers"] f fd
  d_answers : ∃ f fd, Df K mg "answers" t_answers ["calls"] f fd
theorem row_mk {P : Program} {w : World} {K : PySem.W.Frag} {mg : Str → Option Value} {base : Heap} {sp : Nat → (List Nat → Km413.Call) → Sp} {ok : Km413.Call → Bool} {p : Nat} {nm : Str} {k n : Nat} {ps : List Str} {c : List Nat → Km413.Call} {f : Addr} {fd : FuncData} (G : Kn P w K mg base k nm ps (sp n c) f fd) (hk : k ≤ 9) (hn : n ≤ 3) (hs : PyKm413.shape (p : Int) = some (n, 0))
    (hc : ∀ ns : List Nat, ns.length = n → ok (c ns) = true ∧ Km413Neutral.callOf [(p : Int) :: ns.map fun (n : Nat) => (n : Int)] = some (c ns)) : Row P w K mg base sp ok p nm := ⟨f, n, c, G.mg, G.fa hk, hn, hs, hc⟩
theorem whole {P : Program} {w : World} {K : PySem.W.Frag} {mg : Str → Option Value} {C : Ad} (T : Txt K mg C) (S : Defs K mg C) (TB : Tb K mg "NUMBERS_OF_CALL" (ars.map vN)) (TC : TbF K mg "CHANGES" chgNames) (TQ : TbF K mg "QUESTIONS" askNames) {fa : Addr} (hfa : mg "answers" = some (.ref fa)) :
    ∃ fd : FuncData, (∀ (s : Shared) (us : List Value), us.length = (["calls"] : List Str).length → BindsTo s fd ⟨us, []⟩ ((["calls"] : List Str).zip us)) ∧ ∀ base : Heap, FnOk P w K mg base CX0 60 fa fd ["calls"] (spAnswers K) := by
  obtain ⟨f_Level, fd_Level, D_Level⟩ := S.d_Level
  obtain ⟨f_Person, fd_Person, D_Person⟩ := S.d_Person
  obtain ⟨f_is_below, fd_is_below, D_is_below⟩ := S.d_is_below
  obtain ⟨f_is_foul, fd_is_foul, D_is_foul⟩ := S.d_is_foul
  obtain ⟨f_gain_in_a_minute, fd_gain_in_a_minute, D_gain_in_a_minute⟩ := S.d_gain_in_a_minute
  obtain ⟨f_gas_after, fd_gas_after, D_gas_after⟩ := S.d_gas_after
  obtain ⟨f_persons_at, fd_persons_at, D_persons_at⟩ := S.d_persons_at
  obtain ⟨f_count_at, fd_count_at, D_count_at⟩ := S.d_count_at
  obtain ⟨f_on_the_rope, fd_on_the_rope, D_on_the_rope⟩ := S.d_on_the_rope
  obtain ⟨f_pass_minutes, fd_pass_minutes, D_pass_minutes⟩ := S.d_pass_minutes
  obtain ⟨f_copy_of_level, fd_copy_of_level, D_copy_of_level⟩ := S.d_copy_of_level
  obtain ⟨f_Shaft, fd_Shaft, D_Shaft⟩ := S.d_Shaft
  obtain ⟨f_copy_of_shaft, fd_copy_of_shaft, D_copy_of_shaft⟩ := S.d_copy_of_shaft
  obtain ⟨f_levels_of_those_below, fd_levels_of_those_below, D_levels_of_those_below⟩ := S.d_levels_of_those_below
  obtain ⟨f_taken_along, fd_taken_along, D_taken_along⟩ := S.d_taken_along
  obtain ⟨f_groups_to_fetch, fd_groups_to_fetch, D_groups_to_fetch⟩ := S.d_groups_to_fetch
  obtain ⟨f_wear_to_fetch, fd_wear_to_fetch, D_wear_to_fetch⟩ := S.d_wear_to_fetch
  obtain ⟨f_needed, fd_needed, D_needed⟩ := S.d_needed
  obtain ⟨f_is_safe, fd_is_safe, D_is_safe⟩ := S.d_is_safe
  obtain ⟨f_is_level, fd_is_level, D_is_level⟩ := S.d_is_level
  obtain ⟨f_sh_level, fd_sh_level, D_sh_level⟩ := S.d_sh_level
  obtain ⟨f_sh_hire, fd_sh_hire, D_sh_hire⟩ := S.d_sh_hire
  obtain ⟨f_sh_board, fd_sh_board, D_sh_board⟩ := S.d_sh_board
  obtain ⟨f_sh_leave, fd_sh_leave, D_sh_leave⟩ := S.d_sh_leave
  obtain ⟨f_metres_to, fd_metres_to, D_metres_to⟩ := S.d_metres_to
  obtain ⟨f_wear_to, fd_wear_to, D_wear_to⟩ := S.d_wear_to
  obtain ⟨f_move_cage, fd_move_cage, D_move_cage⟩ := S.d_move_cage
  obtain ⟨f_would_be_safe_at, fd_would_be_safe_at, D_would_be_safe_at⟩ := S.d_would_be_safe_at
  obtain ⟨f_winding_refusal, fd_winding_refusal, D_winding_refusal⟩ := S.d_winding_refusal
  obtain ⟨f_sh_wind, fd_sh_wind, D_sh_wind⟩ := S.d_sh_wind
  obtain ⟨f_sh_wait, fd_sh_wait, D_sh_wait⟩ := S.d_sh_wait
  obtain ⟨f_sh_fan, fd_sh_fan, D_sh_fan⟩ := S.d_sh_fan
  obtain ⟨f_sh_mine, fd_sh_mine, D_sh_mine⟩ := S.d_sh_mine
  obtain ⟨f_sh_load, fd_sh_load, D_sh_load⟩ := S.d_sh_load
  obtain ⟨f_sh_dump, fd_sh_dump, D_sh_dump⟩ := S.d_sh_dump
  obtain ⟨f_sh_rope, fd_sh_rope, D_sh_rope⟩ := S.d_sh_rope
  obtain ⟨f_sh_lock, fd_sh_lock, D_sh_lock⟩ := S.d_sh_lock
  obtain ⟨f_door_refusal, fd_door_refusal, D_door_refusal⟩ := S.d_door_refusal
  obtain ⟨f_sh_open, fd_sh_open, D_sh_open⟩ := S.d_sh_open
  obtain ⟨f_sh_shut, fd_sh_shut, D_sh_shut⟩ := S.d_sh_shut
  obtain ⟨f_as_bits, fd_as_bits, D_as_bits⟩ := S.d_as_bits
  obtain ⟨f_counted, fd_counted, D_counted⟩ := S.d_counted
  obtain ⟨f_sh_where, fd_sh_where, D_sh_where⟩ := S.d_sh_where
  obtain ⟨f_sh_below, fd_sh_below, D_sh_below⟩ := S.d_sh_below
  obtain ⟨f_sh_who, fd_sh_who, D_sh_who⟩ := S.d_sh_who
  obtain ⟨f_sh_cage, fd_sh_cage, D_sh_cage⟩ := S.d_sh_cage
  obtain ⟨f_sh_need, fd_sh_need, D_sh_need⟩ := S.d_sh_need
  obtain ⟨f_step_above_ground, fd_step_above_ground, D_step_above_ground⟩ := S.d_step_above_ground
  obtain ⟨f_step_below_ground, fd_step_below_ground, D_step_below_ground⟩ := S.d_step_below_ground
  obtain ⟨f_next_step, fd_next_step, D_next_step⟩ := S.d_next_step
  obtain ⟨f_sh_next, fd_sh_next, D_sh_next⟩ := S.d_sh_next
  obtain ⟨f_warning_of, fd_warning_of, D_warning_of⟩ := S.d_warning_of
  obtain ⟨f_sh_gas, fd_sh_gas, D_sh_gas⟩ := S.d_sh_gas
  obtain ⟨f_sh_foul, fd_sh_foul, D_sh_foul⟩ := S.d_sh_foul
  obtain ⟨f_sh_long, fd_sh_long, D_sh_long⟩ := S.d_sh_long
  obtain ⟨f_sh_may, fd_sh_may, D_sh_may⟩ := S.d_sh_may
  obtain ⟨f_sh_ore, fd_sh_ore, D_sh_ore⟩ := S.d_sh_ore
  obtain ⟨f_locks_open_at, fd_locks_open_at, D_locks_open_at⟩ := S.d_locks_open_at
  obtain ⟨f_sh_doors, fd_sh_doors, D_sh_doors⟩ := S.d_sh_doors
  obtain ⟨f_History, fd_History, D_History⟩ := S.d_History
  obtain ⟨f_sh_start, fd_sh_start, D_sh_start⟩ := S.d_sh_start
  obtain ⟨f_carry_out, fd_carry_out, D_carry_out⟩ := S.d_carry_out
  obtain ⟨f_make_change, fd_make_change, D_make_change⟩ := S.d_make_change
  obtain ⟨f_ask, fd_ask, D_ask⟩ := S.d_ask
  obtain ⟨f_go_over, fd_go_over, D_go_over⟩ := S.d_go_over
  obtain ⟨f_sh_back, fd_sh_back, D_sh_back⟩ := S.d_sh_back
  obtain ⟨f_sh_again, fd_sh_again, D_sh_again⟩ := S.d_sh_again
  obtain ⟨f_sh_state, fd_sh_state, D_sh_state⟩ := S.d_sh_state
  obtain ⟨f_answer_to, fd_answer_to, D_answer_to⟩ := S.d_answer_to
  obtain ⟨f_answers, fd_answers, D_answers⟩ := S.d_answers
  have e := hfa.symm.trans D_answers.mg
  injection e with e
  injection e with e
  subst e
  refine ⟨fd_answers, fun s us hu => ?_, fun base => ?_⟩
  · obtain ⟨oc, od, kV, doc, pm, an, cdv, ct, osl, rfl, lk, hcd⟩ := D_answers.fn.ex
    exact match us, hu with | [_], _ => .of_eq rfl
  · have K_Level := okLevel (P := P) (w := w) (base := base) T D_Level
    have K_Person := okPerson (P := P) (w := w) (base := base) T D_Person
    have K_is_below := ok_is_below (P := P) (w := w) (base := base) T D_is_below
    have K_is_foul := ok_is_foul (P := P) (w := w) (base := base) T D_is_foul
    have K_gain_in_a_minute := ok_gain (P := P) (w := w) (base := base) T D_gain_in_a_minute
    have K_gas_after := ok_gas_after (P := P) (w := w) (base := base) T D_gas_after K_gain_in_a_minute
    have K_persons_at := ok_persons_at (P := P) (w := w) (base := base) T D_persons_at
    have K_count_at := ok_count_at (P := P) (w := w) (base := base) T D_count_at K_persons_at
    have K_on_the_rope := ok_on_the_rope (P := P) (w := w) (base := base) T D_on_the_rope K_count_at
    have K_pass_minutes := ok_pass_minutes (P := P) (w := w) (base := base) T D_pass_minutes K_gas_after
    have K_copy_of_level := ok_copy_of_level (P := P) (w := w) (base := base) T D_copy_of_level K_Level
    have K_Shaft := okShaft (P := P) (w := w) (base := base) T D_Shaft K_Level
    have K_copy_of_shaft := ok_copy_of_shaft (P := P) (w := w) (base := base) T D_copy_of_shaft K_Shaft K_Person K_copy_of_level
    have K_levels_of_those_below := ok_levels (P := P) (w := w) (base := base) T D_levels_of_those_below K_is_below
    have K_taken_along := ok_taken (P := P) (w := w) (base := base) T D_taken_along K_levels_of_those_below K_count_at
    have K_groups_to_fetch := ok_groups (P := P) (w := w) (base := base) T D_groups_to_fetch K_levels_of_those_below K_taken_along
    have K_wear_to_fetch := ok_wear (P := P) (w := w) (base := base) T D_wear_to_fetch
    have K_needed := ok_needed (P := P) (w := w) (base := base) T D_needed K_on_the_rope K_taken_along K_groups_to_fetch K_wear_to_fetch
    have K_is_safe := ok_is_safe (P := P) (w := w) (base := base) T D_is_safe K_needed
    have K_is_level := ok_is_level (P := P) (w := w) (base := base) T D_is_level
    have K_sh_level := ok_sh_level (P := P) (w := w) (base := base) T D_sh_level K_Level
    have K_sh_hire := ok_sh_hire (P := P) (w := w) (base := base) T D_sh_hire K_Person
    have K_sh_board := ok_sh_board (P := P) (w := w) (base := base) T D_sh_board K_count_at
    have K_sh_leave := ok_sh_leave (P := P) (w := w) (base := base) T D_sh_leave K_count_at K_is_foul K_is_safe
    have K_metres_to := ok_metres (P := P) (w := w) (base := base) T D_metres_to
    have K_wear_to := ok_wear_to (P := P) (w := w) (base := base) T D_wear_to K_metres_to K_on_the_rope
    have K_move_cage := ok_move (P := P) (w := w) (base := base) T D_move_cage K_wear_to
    have K_would_be_safe_at := ok_would (P := P) (w := w) (base := base) T D_would_be_safe_at K_copy_of_shaft K_move_cage K_is_safe
    have K_winding_refusal := ok_refw (P := P) (w := w) (base := base) T D_winding_refusal K_would_be_safe_at
    have K_sh_wind := ok_sh_wind (P := P) (w := w) (base := base) T D_sh_wind K_winding_refusal K_metres_to K_pass_minutes K_move_cage
    have K_sh_wait := ok_sh_wait (P := P) (w := w) (base := base) T D_sh_wait K_pass_minutes
    have K_sh_fan := ok_sh_fan (P := P) (w := w) (base := base) T D_sh_fan K_is_level
    have K_sh_mine := ok_sh_mine (P := P) (w := w) (base := base) T D_sh_mine K_is_level K_count_at
    have K_sh_load := ok_sh_load (P := P) (w := w) (base := base) T D_sh_load K_is_safe
    have K_sh_dump := ok_sh_dump (P := P) (w := w) (base := base) T D_sh_dump
    have K_sh_rope := ok_sh_rope (P := P) (w := w) (base := base) T D_sh_rope K_is_below
    have K_sh_lock := ok_sh_lock (P := P) (w := w) (base := base) T D_sh_lock
    have K_door_refusal := ok_door (P := P) (w := w) (base := base) T D_door_refusal
    have K_sh_open := ok_sh_open (P := P) (w := w) (base := base) T D_sh_open K_door_refusal
    have K_sh_shut := ok_sh_shut (P := P) (w := w) (base := base) T D_sh_shut K_door_refusal
    have K_as_bits := ok_as_bits (P := P) (w := w) (base := base) T D_as_bits
    have K_counted := ok_counted (P := P) (w := w) (base := base) T D_counted K_as_bits
    have K_sh_where := ok_sh_where (P := P) (w := w) (base := base) T D_sh_where
    have K_sh_below := ok_sh_below (P := P) (w := w) (base := base) T D_sh_below K_counted K_is_below
    have K_sh_who := ok_sh_who (P := P) (w := w) (base := base) T D_sh_who K_counted K_persons_at
    have K_sh_cage := ok_sh_cage (P := P) (w := w) (base := base) T D_sh_cage K_as_bits K_persons_at K_on_the_rope
    have K_sh_need := ok_sh_need (P := P) (w := w) (base := base) T D_sh_need K_groups_to_fetch K_needed
    have K_step_above_ground := ok_above (P := P) (w := w) (base := base) T D_step_above_ground K_persons_at K_levels_of_those_below
    have K_step_below_ground := ok_under (P := P) (w := w) (base := base) T D_step_below_ground K_persons_at K_taken_along
    have K_next_step := ok_next (P := P) (w := w) (base := base) T D_next_step K_step_above_ground K_step_below_ground
    have K_sh_next := ok_sh_next (P := P) (w := w) (base := base) T D_sh_next K_next_step
    have K_warning_of := ok_warn (P := P) (w := w) (base := base) T D_warning_of K_is_foul K_gain_in_a_minute
    have K_sh_gas := ok_sh_gas (P := P) (w := w) (base := base) T D_sh_gas K_is_level K_warning_of
    have K_sh_foul := ok_sh_foul (P := P) (w := w) (base := base) T D_sh_foul K_counted K_is_foul
    have K_sh_long := ok_sh_long (P := P) (w := w) (base := base) T D_sh_long K_counted K_is_below
    have K_sh_may := ok_sh_may (P := P) (w := w) (base := base) T D_sh_may K_winding_refusal K_wear_to
    have K_sh_ore := ok_sh_ore (P := P) (w := w) (base := base) T D_sh_ore
    have K_locks_open_at := ok_locks (P := P) (w := w) (base := base) T D_locks_open_at K_as_bits
    have K_sh_doors := ok_sh_doors (P := P) (w := w) (base := base) T D_sh_doors K_locks_open_at
    have K_History := okHistory (P := P) (w := w) (base := base) T D_History
    have K_sh_start := ok_sh_start (P := P) (w := w) (base := base) T D_sh_start K_Shaft
    have K_carry_out := ok_carry (P := P) (w := w) (base := base) T D_carry_out
    have K_make_change := ok_make (P := P) (w := w) (base := base) T D_make_change K_copy_of_shaft K_carry_out
    have K_ask := ok_ask (P := P) (w := w) (base := base) T D_ask K_carry_out
    have K_go_over := ok_over (P := P) (w := w) (base := base) T D_go_over
    have K_sh_back := ok_sh_back (P := P) (w := w) (base := base) T D_sh_back K_go_over
    have K_sh_again := ok_sh_again (P := P) (w := w) (base := base) T D_sh_again K_go_over
    have K_sh_state := ok_sh_state (P := P) (w := w) (base := base) T D_sh_state
    have RC : ∀ (i : Nat) (nm : Str), chgNames[i]? = some nm → Row P w K mg base (spChg C) isChange (i + 1) nm := by
      intro i nm h
      match i, h with
      | 0, h =>
        obtain rfl := Option.some.inj h
        exact row_mk K_sh_level (by decide) (by decide) rfl (fun ns h => by obtain ⟨x, y, z, rfl⟩ := len3 h; exact ⟨rfl, rfl⟩)
      | 1, h =>
        obtain rfl := Option.some.inj h
        exact row_mk K_sh_hire (by decide) (by decide) rfl (fun ns h => by obtain rfl := len0 h; exact ⟨rfl, rfl⟩)
      | 2, h =>
        obtain rfl := Option.some.inj h
        exact row_mk K_sh_board (by decide) (by decide) rfl (fun ns h => by obtain ⟨x, rfl⟩ := len1 h; exact ⟨rfl, rfl⟩)
      | 3, h =>
        obtain rfl := Option.some.inj h
        exact row_mk K_sh_leave (by decide) (by decide) rfl (fun ns h => by obtain ⟨x, rfl⟩ := len1 h; exact ⟨rfl, rfl⟩)
      | 4, h =>
        obtain rfl := Option.some.inj h
        exact row_mk K_sh_wind (by decide) (by decide) rfl (fun ns h => by obtain ⟨x, rfl⟩ := len1 h; exact ⟨rfl, rfl⟩)
      | 5, h =>
        obtain rfl := Option.some.inj h
        exact row_mk K_sh_wait (by decide) (by decide) rfl (fun ns h => by obtain ⟨x, rfl⟩ := len1 h; exact ⟨rfl, rfl⟩)
      | 6, h =>
        obtain rfl := Option.some.inj h
        exact row_mk K_sh_fan (by decide) (by decide) rfl (fun ns h => by obtain ⟨x, y, rfl⟩ := len2 h; exact ⟨rfl, rfl⟩)
      | 7, h =>
        obtain rfl := Option.some.inj h
        exact row_mk K_sh_mine (by decide) (by decide) rfl (fun ns h => by obtain ⟨x, y, rfl⟩ := len2 h; exact ⟨rfl, rfl⟩)
      | 8, h =>
        obtain rfl := Option.some.inj h
        exact row_mk K_sh_load (by decide) (by decide) rfl (fun ns h => by obtain ⟨x, rfl⟩ := len1 h; exact ⟨rfl, rfl⟩)
      | 9, h =>
        obtain rfl := Option.some.inj h
        exact row_mk K_sh_dump (by decide) (by decide) rfl (fun ns h => by obtain rfl := len0 h; exact ⟨rfl, rfl⟩)
      | 10, h =>
        obtain rfl := Option.some.inj h
        exact row_mk K_sh_rope (by decide) (by decide) rfl (fun ns h => by obtain ⟨x, rfl⟩ := len1 h; exact ⟨rfl, rfl⟩)
      | 11, h =>
        obtain rfl := Option.some.inj h
        exact row_mk K_sh_lock (by decide) (by decide) rfl (fun ns h => by obtain rfl := len0 h; exact ⟨rfl, rfl⟩)
      | 12, h =>
        obtain rfl := Option.some.inj h
        exact row_mk K_sh_open (by decide) (by decide) rfl (fun ns h => by obtain ⟨x, y, rfl⟩ := len2 h; exact ⟨rfl, rfl⟩)
      | 13, h =>
        obtain rfl := Option.some.inj h
        exact row_mk K_sh_shut (by decide) (by decide) rfl (fun ns h => by obtain ⟨x, y, rfl⟩ := len2 h; exact ⟨rfl, rfl⟩)
      | i + 14, h => exact absurd (List.getElem?_eq_some_iff.mp h).1 (by show ¬ i + 14 < 14; omega)
    have RQ : ∀ (i : Nat) (nm : Str), askNames[i]? = some nm → Row P w K mg base (spAsk C) isAsk (i + 15) nm := by
      intro i nm h
      match i, h with
      | 0, h =>
        obtain rfl := Option.some.inj h
        exact row_mk K_sh_where (by decide) (by decide) rfl (fun ns h => by obtain ⟨x, rfl⟩ := len1 h; exact ⟨rfl, rfl⟩)
      | 1, h =>
        obtain rfl := Option.some.inj h
        exact row_mk K_sh_below (by decide) (by decide) rfl (fun ns h => by obtain rfl := len0 h; exact ⟨rfl, rfl⟩)
      | 2, h =>
        obtain rfl := Option.some.inj h
        exact row_mk K_sh_who (by decide) (by decide) rfl (fun ns h => by obtain ⟨x, rfl⟩ := len1 h; exact ⟨rfl, rfl⟩)
      | 3, h =>
        obtain rfl := Option.some.inj h
        exact row_mk K_sh_cage (by decide) (by decide) rfl (fun ns h => by obtain rfl := len0 h; exact ⟨rfl, rfl⟩)
      | 4, h =>
        obtain rfl := Option.some.inj h
        exact row_mk K_sh_need (by decide) (by decide) rfl (fun ns h => by obtain rfl := len0 h; exact ⟨rfl, rfl⟩)
      | 5, h =>
        obtain rfl := Option.some.inj h
        exact row_mk K_sh_next (by decide) (by decide) rfl (fun ns h => by obtain rfl := len0 h; exact ⟨rfl, rfl⟩)
      | 6, h =>
        obtain rfl := Option.some.inj h
        exact row_mk K_sh_gas (by decide) (by decide) rfl (fun ns h => by obtain ⟨x, rfl⟩ := len1 h; exact ⟨rfl, rfl⟩)
      | 7, h =>
        obtain rfl := Option.some.inj h
        exact row_mk K_sh_foul (by decide) (by decide) rfl (fun ns h => by obtain rfl := len0 h; exact ⟨rfl, rfl⟩)
      | 8, h =>
        obtain rfl := Option.some.inj h
        exact row_mk K_sh_long (by decide) (by decide) rfl (fun ns h => by obtain ⟨x, rfl⟩ := len1 h; exact ⟨rfl, rfl⟩)
      | 9, h =>
        obtain rfl := Option.some.inj h
        exact row_mk K_sh_may (by decide) (by decide) rfl (fun ns h => by obtain ⟨x, rfl⟩ := len1 h; exact ⟨rfl, rfl⟩)
      | 10, h =>
        obtain rfl := Option.some.inj h
        exact row_mk K_sh_ore (by decide) (by decide) rfl (fun ns h => by obtain rfl := len0 h; exact ⟨rfl, rfl⟩)
      | 11, h =>
        obtain rfl := Option.some.inj h
        exact row_mk K_sh_doors (by decide) (by decide) rfl (fun ns h => by obtain rfl := len0 h; exact ⟨rfl, rfl⟩)
      | i + 12, h => exact absurd (List.getElem?_eq_some_iff.mp h).1 (by show ¬ i + 12 < 12; omega)
    have K_answer_to := ok_answer_to (P := P) (w := w) (base := base) T TC TQ D_answer_to K_sh_start K_make_change K_ask K_sh_back K_sh_again K_sh_state RC RQ
    have K_answers := ok_answers (P := P) (w := w) (base := base) T TB D_answers K_History K_answer_to
    exact K_answers.ok.mono (by decide)
end Ms
set_option Elab.async false
set_option linter.all false
set_option maxRecDepth 100000
/-! Names that are taken: where a twin's name stands already, the head lays none, and goes by the objects themselves: the compiled file stays small. -/
namespace PySem.W.Fast
def tw16578238630877651944 : Nat := 0
def tw6832386813224499872 : Nat := 0
def tw3425552713558080444 : Nat := 0
def tw11031116240950301551 : Nat := 0
def tw2002412135261176657 : Nat := 0
def tw2004669796366278583 : Nat := 0
def tw9256328672265562130 : Nat := 0
def tw18180146503136574885 : Nat := 0
def tw3577112683122988916 : Nat := 0
def tw9722668881553757517 : Nat := 0
def tw7671382592765861399 : Nat := 0
def tw16352616613625530857 : Nat := 0
def tw873030366191284234 : Nat := 0
def tw18099232978903702545 : Nat := 0
def tw3654038210137177810 : Nat := 0
def tw11038955447048837582 : Nat := 0
def tw817720598679913958 : Nat := 0
def tw7881060693214875923 : Nat := 0
def tw9168395123717745477 : Nat := 0
def tw11287082595183755784 : Nat := 0
def tw6880888713164525155 : Nat := 0
def tw2690630447774533736 : Nat := 0
def tw16247624165023707272 : Nat := 0
def tw15628062514450982529 : Nat := 0
def tw549287286436695112 : Nat := 0
def tw161302657414947544 : Nat := 0
def tw810351157132111764 : Nat := 0
def tw4699429451699876396 : Nat := 0
def tw17678133494880813679 : Nat := 0
def tw12668650803808628228 : Nat := 0
def tw10923578245803509317 : Nat := 0
def tw17978033769110131392 : Nat := 0
def tw12420211253805678220 : Nat := 0
def tw17059788867176241086 : Nat := 0
def tw4734370695047015275 : Nat := 0
def tw10830931936892728725 : Nat := 0
def tw11684415220471035375 : Nat := 0
def tw5071627890937361892 : Nat := 0
def tw15177400458407167081 : Nat := 0
def tw11484374726995430553 : Nat := 0
def tw11892317018869176318 : Nat := 0
def tw547885098310613104 : Nat := 0
def tw18006012837258923304 : Nat := 0
def tw11137679792207028516 : Nat := 0
def tw2910542982710187879 : Nat := 0
def tw8545270751524838333 : Nat := 0
def tw15921509704794923845 : Nat := 0
def tw8428964560299611496 : Nat := 0
def tw14369804452405120363 : Nat := 0
def tw11502996735260388442 : Nat := 0
def tw5300460106087512334 : Nat := 0
def tw3256836452430584730 : Nat := 0
def tw10861685617708978150 : Nat := 0
def tw2131710189339949544 : Nat := 0
def tw11734454234231646260 : Nat := 0
def tw6510492471426095642 : Nat := 0
def tw16000843727490711903 : Nat := 0
def tw12261642356622054676 : Nat := 0
def tw14855120611294089403 : Nat := 0
def tw12488506574397042803 : Nat := 0
def tw14529983940911331192 : Nat := 0
def tw1259361573117526645 : Nat := 0
def tw12655102140042621960 : Nat := 0
def tw16421833290394333334 : Nat := 0
def tw12947046679804216788 : Nat := 0
def tw10290824205916776738 : Nat := 0
def tw8089469649096510458 : Nat := 0
def tw3426846777804817556 : Nat := 0
def tw8698650662275854293 : Nat := 0
def tw10167349986903771744 : Nat := 0
def tw4558644289494638065 : Nat := 0
def tw7046537354255606454 : Nat := 0
def tw2969485236487422703 : Nat := 0
def tw6937155232614351696 : Nat := 0
def tw209737289873290961 : Nat := 0
def tw13367255233350390846 : Nat := 0
def tw3989515230759330166 : Nat := 0
def tw10953928682381585309 : Nat := 0
def tw12884024183537013594 : Nat := 0
def tw14988501537792009235 : Nat := 0
def tw12321556190044072101 : Nat := 0
def tw17252556902946325657 : Nat := 0
def tw12148239197049404257 : Nat := 0
def tw11153364901158772346 : Nat := 0
def tw9178241125510243917 : Nat := 0
def tw7191123047057394615 : Nat := 0
def tw14943053419265394288 : Nat := 0
def tw1601255215517737784 : Nat := 0
def tw13899235164917818172 : Nat := 0
def tw8781804738900797558 : Nat := 0
def tw8516162167441065504 : Nat := 0
def tw12393452111153184179 : Nat := 0
def tw7894279737768466999 : Nat := 0
def tw4000188877890455882 : Nat := 0
def tw11339915266259064949 : Nat := 0
def tw10983762471921654074 : Nat := 0
def tw179447582318737354 : Nat := 0
def tw3652341494557946390 : Nat := 0
def tw18420281842288910201 : Nat := 0
def tw5643469146996969392 : Nat := 0
def tw9981576160953389168 : Nat := 0
def tw14287967986847668184 : Nat := 0
def tw17926267897746481970 : Nat := 0
def tw12210907127350653461 : Nat := 0
def tw3001442630624739366 : Nat := 0
def tw14169775744974609519 : Nat := 0
def tw2925736250589471908 : Nat := 0
def tw8118227035918539857 : Nat := 0
def tw2302842218283806701 : Nat := 0
def tw13005140364461041883 : Nat := 0
def tw12328552424973318389 : Nat := 0
def tw17748637841115237823 : Nat := 0
def tw1551793036836648574 : Nat := 0
def tw4646686293073385521 : Nat := 0
def tw2326929542784857721 : Nat := 0
def tw7229661276281874060 : Nat := 0
def tw5155986056596574033 : Nat := 0
def tw1435337109013555057 : Nat := 0
def tw12978563056518400764 : Nat := 0
def tw16231387109049816677 : Nat := 0
def tw11595154884891432280 : Nat := 0
def tw6633707342282945727 : Nat := 0
def tw8778971683508269353 : Nat := 0
def tw10214000890291523066 : Nat := 0
def tw13536526156185276026 : Nat := 0
def tw7215116301314159579 : Nat := 0
def tw4388435256000925458 : Nat := 0
def tw9691829742469685866 : Nat := 0
def tw4646944976835360573 : Nat := 0
def tw9729436630336930406 : Nat := 0
def tw9973802256937977524 : Nat := 0
def tw3831818563919353062 : Nat := 0
def tw3179060987842712049 : Nat := 0
def tw6092543648462634313 : Nat := 0
def tw13819698068118753711 : Nat := 0
def tw744418186331597121 : Nat := 0
def tw12979985786354814517 : Nat := 0
def tw4119070657490912533 : Nat := 0
def tw8210064258181176285 : Nat := 0
def tw832571649932480283 : Nat := 0
def tw7803955870860768811 : Nat := 0
def tw14690283806857136200 : Nat := 0
def tw17966592490237109599 : Nat := 0
def tw10595540882318513544 : Nat := 0
def tw14072178289724328646 : Nat := 0
def tw10091540295982893039 : Nat := 0
def tw14765321124374754008 : Nat := 0
def tw5953175998644240902 : Nat := 0
def tw5862709158257963332 : Nat := 0
def tw6102939963171026537 : Nat := 0
def tw10046275757159901949 : Nat := 0
def tw5131253863307073025 : Nat := 0
def tw3131599820287247408 : Nat := 0
def tw3585261655104688049 : Nat := 0
def tw12535300268402722487 : Nat := 0
def tw9907946971971827055 : Nat := 0
def tw1608036956852780043 : Nat := 0
def tw14095911443201521296 : Nat := 0
def tw16288445579641153067 : Nat := 0
def tw16993346039297168926 : Nat := 0
def tw14723775879879801424 : Nat := 0
def tw13106503167502997296 : Nat := 0
def tw757296480368083424 : Nat := 0
def tw17486064397146183215 : Nat := 0
def tw2125067595286909040 : Nat := 0
def tw7919653938226551861 : Nat := 0
def tw10157140134116546550 : Nat := 0
def tw3901479016770163021 : Nat := 0
def tw6595083852541881045 : Nat := 0
def tw4251223466593692985 : Nat := 0
def tw3171935553277622720 : Nat := 0
def tw10608702287777236041 : Nat := 0
def tw6856643652787042418 : Nat := 0
def tw11921966296192841867 : Nat := 0
def tw13643975671452508593 : Nat := 0
def tw8141191083476808182 : Nat := 0
def tw6091042282927171014 : Nat := 0
def tw9778425552739040774 : Nat := 0
def tw9489275420421008996 : Nat := 0
def tw16127421840290375428 : Nat := 0
def tw14811973266152078378 : Nat := 0
def tw637457369270047941 : Nat := 0
def tw6767711915273410225 : Nat := 0
def tw4444218417250752410 : Nat := 0
def tw12250480715452238146 : Nat := 0
def tw10167318150214985468 : Nat := 0
def tw6458592610456511093 : Nat := 0
def tw75084139256467596 : Nat := 0
def tw10845658659295969078 : Nat := 0
def tw3904199984814914048 : Nat := 0
def tw3866795426959927262 : Nat := 0
def tw8791194968218331532 : Nat := 0
def tw1231327623475467441 : Nat := 0
def tw5945986988645935578 : Nat := 0
def tw2869460447441880846 : Nat := 0
def tw17293052590351306472 : Nat := 0
def tw10983792032872614577 : Nat := 0
def tw16594479311376952051 : Nat := 0
def tw9616747168984722820 : Nat := 0
def tw5003498693037529115 : Nat := 0
def tw3425576466625018975 : Nat := 0
def tw11789574513615264864 : Nat := 0
def tw8753561539232702797 : Nat := 0
def tw11917277477892281747 : Nat := 0
def tw13522200651171487491 : Nat := 0
def tw8942312765226400493 : Nat := 0
def tw5337435903398859230 : Nat := 0
def tw1323540064559095202 : Nat := 0
def tw5181795822632971643 : Nat := 0
def tw11694943725052898230 : Nat := 0
def tw9133876542906808055 : Nat := 0
def tw8812959917847710992 : Nat := 0
def tw13359699589748269510 : Nat := 0
def tw15639658859864870573 : Nat := 0
def tw14512766924450628609 : Nat := 0
def tw4717934584161888120 : Nat := 0
def tw12381185492170041258 : Nat := 0
def tw17881518187979462893 : Nat := 0
def tw10272378868026994138 : Nat := 0
def tw11235702423172929665 : Nat := 0
def tw9676695710790255293 : Nat := 0
def tw7916336244344773556 : Nat := 0
def tw12796172150401847542 : Nat := 0
def tw13051794349769475205 : Nat := 0
def tw9634669276010773183 : Nat := 0
def tw5094841180291221595 : Nat := 0
def tw1603953424648136649 : Nat := 0
def tw5877686121705741692 : Nat := 0
def tw5076417927935020311 : Nat := 0
def tw10784046805938161451 : Nat := 0
def tw15573020373478947481 : Nat := 0
def tw12683531753626510918 : Nat := 0
def tw12819194762784961090 : Nat := 0
def tw11859071385439322952 : Nat := 0
def tw3644994637865094175 : Nat := 0
def tw17365886456011413212 : Nat := 0
def tw2712969740458076048 : Nat := 0
def tw8341780852834822717 : Nat := 0
def tw10292066061940221213 : Nat := 0
def tw15026319827466118961 : Nat := 0
def tw14964484087446292200 : Nat := 0
def tw11812035103089675531 : Nat := 0
def tw17632386339418301143 : Nat := 0
def tw17556732804772992553 : Nat := 0
def tw8974770061502015741 : Nat := 0
def tw10526889422102183981 : Nat := 0
def tw17829225876220781470 : Nat := 0
def tw16200097074404377820 : Nat := 0
def tw15055309337109086851 : Nat := 0
def tw13797640905868998956 : Nat := 0
def tw1580512689261675383 : Nat := 0
def tw11653043355033116084 : Nat := 0
def tw6681355421954683498 : Nat := 0
def tw8782100043860626850 : Nat := 0
def tw14332455391101117743 : Nat := 0
def tw9528893401087574175 : Nat := 0
def tw10270208082417384064 : Nat := 0
def tw17180772503873621948 : Nat := 0
def tw16353643102691921015 : Nat := 0
def tw586249298236209320 : Nat := 0
def tw2279980937152839196 : Nat := 0
def tw4340459498313168485 : Nat := 0
def tw15194429144270534122 : Nat := 0
def tw13867817134397016560 : Nat := 0
def tw7795734976444873625 : Nat := 0
def tw7352214119817155350 : Nat := 0
def tw771432286450256119 : Nat := 0
def tw575648611213646617 : Nat := 0
def tw12358962897092827990 : Nat := 0
def tw17014626599385289507 : Nat := 0
def tw7104755665878033440 : Nat := 0
def tw17370577177463163366 : Nat := 0
def tw5004287755190465713 : Nat := 0
def tw3249817619884858648 : Nat := 0
def tw14600617317465382044 : Nat := 0
def tw9522309011986832367 : Nat := 0
def tw5637848850165051768 : Nat := 0
def tw7372302901858764431 : Nat := 0
def tw16548667408042140481 : Nat := 0
def tw9644258856057248474 : Nat := 0
def tw13830424458610234725 : Nat := 0
def tw2864544560108708709 : Nat := 0
def tw15735830784622939768 : Nat := 0
def tw4835062585637651584 : Nat := 0
def tw8647734525119084633 : Nat := 0
def tw14735236446403951663 : Nat := 0
def tw4737183171254653399 : Nat := 0
def tw466425836070218866 : Nat := 0
def tw18000420485339165417 : Nat := 0
def tw8156751029825106156 : Nat := 0
def tw2425509659242610597 : Nat := 0
def tw7213293761612491299 : Nat := 0
def tw12436141892964442479 : Nat := 0
def tw15996229159246365446 : Nat := 0
def tw9025272787591767926 : Nat := 0
def tw14114982996142429200 : Nat := 0
def tw13629301018739506769 : Nat := 0
def tw5820672795601905916 : Nat := 0
def tw2225560574228231736 : Nat := 0
def tw4872398407348684224 : Nat := 0
def tw8806583293180534239 : Nat := 0
def tw7987511343880069433 : Nat := 0
def tw10048087701787255649 : Nat := 0
def tw17886544702379111241 : Nat := 0
def tw5196818185326939691 : Nat := 0
def tw14580432048205002120 : Nat := 0
def tw7044741130834318954 : Nat := 0
def tw13877869220582858098 : Nat := 0
def tw5096070332104583405 : Nat := 0
def tw14309460675864217112 : Nat := 0
def tw14892992462361116867 : Nat := 0
def tw8044335407906242099 : Nat := 0
def tw8528996818244181864 : Nat := 0
def tw7022761199270749033 : Nat := 0
def tw5183531593819343228 : Nat := 0
def tw5420737157381244019 : Nat := 0
def tw5405847944960421416 : Nat := 0
def tw4069142650107981494 : Nat := 0
def tw3365385721916473461 : Nat := 0
def tw17184722762360284913 : Nat := 0
def tw14567705697550583261 : Nat := 0
def tw2139735494918629819 : Nat := 0
def tw13502007951142654176 : Nat := 0
def tw13058273038667402638 : Nat := 0
def tw8128497233524745249 : Nat := 0
def tw518905891343022484 : Nat := 0
def tw7210939785161671172 : Nat := 0
def tw14949044111395491463 : Nat := 0
def tw4385882629307237598 : Nat := 0
def tw10553634585058294799 : Nat := 0
def tw7159840728388727843 : Nat := 0
def tw4818981321583120353 : Nat := 0
def tw6752331119661668876 : Nat := 0
def tw6859017094330233248 : Nat := 0
def tw11556135694143773833 : Nat := 0
def tw6062110888513236869 : Nat := 0
def tw14665259864714232275 : Nat := 0
def tw13250891450414385774 : Nat := 0
def tw7573495762139713720 : Nat := 0
def tw14387426447431558923 : Nat := 0
def tw9007452526479119259 : Nat := 0
def tw11669666859231905883 : Nat := 0
def tw10441005380770507752 : Nat := 0
def tw969716008239556815 : Nat := 0
def tw7656710389041772985 : Nat := 0
def tw14847255192594008443 : Nat := 0
def tw11533934944318031681 : Nat := 0
def tw1331556783918248331 : Nat := 0
def tw3057744733535171343 : Nat := 0
def tw4280518288944450331 : Nat := 0
def tw6545818662775313645 : Nat := 0
def tw8057307984142540648 : Nat := 0
def tw1419591531814695860 : Nat := 0
def tw4919977114818137611 : Nat := 0
def tw8412020715959573906 : Nat := 0
def tw5984661813646331277 : Nat := 0
def tw3243729009354894187 : Nat := 0
def tw13629851743899962055 : Nat := 0
def tw15074035034850009164 : Nat := 0
def tw7617579296959792451 : Nat := 0
def tw10362900664655275925 : Nat := 0
def tw14524058206013705846 : Nat := 0
def tw13738239596361571693 : Nat := 0
def tw2190604226108840072 : Nat := 0
def tw8995495602975909873 : Nat := 0
def tw13020690827971662949 : Nat := 0
def tw5381371160809531298 : Nat := 0
def tw1749778051330902913 : Nat := 0
def tw3235265463212166756 : Nat := 0
def tw7893577811559643553 : Nat := 0
def tw4901396904397258043 : Nat := 0
def tw6377573274354612968 : Nat := 0
def tw14836577627068782801 : Nat := 0
def tw3526629220925483331 : Nat := 0
def tw18090156365910040630 : Nat := 0
def tw4802794133316520006 : Nat := 0
def tw13522527551831449211 : Nat := 0
def tw593651034942901872 : Nat := 0
def tw4599663664847471797 : Nat := 0
def tw12430281540242607093 : Nat := 0
def tw5907517420520790619 : Nat := 0
def tw8897484953778112509 : Nat := 0
def tw5204139646729779405 : Nat := 0
def tw12389232516717340835 : Nat := 0
def tw16295705567196881123 : Nat := 0
def tw104116401972542510 : Nat := 0
def tw8510129611477975048 : Nat := 0
def tw494134772483500131 : Nat := 0
def tw5919709200331380189 : Nat := 0
def tw3270135336714043160 : Nat := 0
def tw4198535242616863745 : Nat := 0
def tw10180786464052847176 : Nat := 0
def tw9093186189679462914 : Nat := 0
def tw14113214773386117682 : Nat := 0
def tw6913283157805274062 : Nat := 0
def tw8901764348406854881 : Nat := 0
def tw8887010384486087959 : Nat := 0
def tw11721813999542294141 : Nat := 0
def tw2210123874080805904 : Nat := 0
def tw17501754081800399579 : Nat := 0
def tw9744019398585282734 : Nat := 0
def tw6494009772326146292 : Nat := 0
def tw10852893055173305152 : Nat := 0
def tw8232716382519899721 : Nat := 0
def tw15172179186102341599 : Nat := 0
def tw564689003196688080 : Nat := 0
def tw11634622466637199847 : Nat := 0
def tw18221671722053183137 : Nat := 0
def tw17869542099041686972 : Nat := 0
def tw12905990156145560159 : Nat := 0
def tw14142886016984320553 : Nat := 0
def tw14810511812928661046 : Nat := 0
def tw5648201283974492924 : Nat := 0
def tw6342465617621310883 : Nat := 0
def tw283610267805991298 : Nat := 0
def tw4185369930891807360 : Nat := 0
def tw8189967904780901130 : Nat := 0
def tw8580007426608212794 : Nat := 0
def tw13130151072889880937 : Nat := 0
def tw168663369723435882 : Nat := 0
def tw6218169771831191693 : Nat := 0
def tw6849028414946614180 : Nat := 0
def tw12313931543362808266 : Nat := 0
def tw3816809426711299834 : Nat := 0
def tw12639258974188273967 : Nat := 0
def tw17927804768978092628 : Nat := 0
def tw4341021439631756136 : Nat := 0
def tw4901737682712084159 : Nat := 0
def tw6435201764411165279 : Nat := 0
def tw15818900005351356751 : Nat := 0
def tw1858883946414571415 : Nat := 0
def tw7144902889750278945 : Nat := 0
def tw12383029937495808814 : Nat := 0
def tw1620812104172230031 : Nat := 0
def tw5972991315106920034 : Nat := 0
def tw16524987253215315771 : Nat := 0
def tw7768967819288749985 : Nat := 0
def tw5285362060479580718 : Nat := 0
def tw9241677613249597846 : Nat := 0
def tw3495272654620509309 : Nat := 0
def tw3129137193401862396 : Nat := 0
def tw8672419730091087226 : Nat := 0
def tw10007594384417144941 : Nat := 0
def tw12619553299037636636 : Nat := 0
def tw2417793673607435511 : Nat := 0
def tw2707132775856798428 : Nat := 0
def tw6237211452277044294 : Nat := 0
def tw15399623135721500156 : Nat := 0
def tw10592151152887274165 : Nat := 0
def tw11194612033668038937 : Nat := 0
def tw1122337455102055806 : Nat := 0
def tw18291305260657108733 : Nat := 0
def tw16615057070697719968 : Nat := 0
def tw3290336628256178141 : Nat := 0
def tw15499804230666594057 : Nat := 0
def tw14545010652170777265 : Nat := 0
def tw6817421888924887789 : Nat := 0
def tw8801860274969184711 : Nat := 0
def tw3763081419783710454 : Nat := 0
def tw5112289837015126201 : Nat := 0
def tw17539399482217623170 : Nat := 0
def tw2289714763143058000 : Nat := 0
def tw14663570010476634717 : Nat := 0
def tw11651402291111329052 : Nat := 0
def tw9303897625366115725 : Nat := 0
def tw1485755730737728089 : Nat := 0
def tw10931958847516277920 : Nat := 0
def tw11904067882827072750 : Nat := 0
def tw13852908234405145486 : Nat := 0
def tw17350923404466310837 : Nat := 0
def tw5522123494411350611 : Nat := 0
def tw2624925583729260627 : Nat := 0
def tw8599540380832898993 : Nat := 0
def tw10584469972064658607 : Nat := 0
def tw3598999845233522566 : Nat := 0
def tw8077328492298595984 : Nat := 0
def tw4448120295992079822 : Nat := 0
def tw4029078069113588439 : Nat := 0
def tw18144782072415739210 : Nat := 0
def tw9851388531586080351 : Nat := 0
def tw4255739789156803228 : Nat := 0
def tw5377092390833432580 : Nat := 0
def tw3889884922510339035 : Nat := 0
def tw10662190054000969237 : Nat := 0
def tw3908143115058257456 : Nat := 0
def tw6213766668062338301 : Nat := 0
def tw7752156113369841401 : Nat := 0
def tw10298661590927670879 : Nat := 0
def tw2995526016030682727 : Nat := 0
def tw5702023865423441016 : Nat := 0
def tw9641721382640011495 : Nat := 0
def tw5510823178127408329 : Nat := 0
def tw5973611277275713718 : Nat := 0
def tw8562729790430027417 : Nat := 0
end PySem.W.Fast
open PySem PySem.W PyProof.Rows
set_option maxRecDepth 100000 in
set_option maxHeartbeats 0 in
theorem PySem.Challenge.cw_mineshaft_s01_answers_holds : PySem.Challenge.rw_mineshaft_s01_answers.Holds := by
  w_on; k_headS; (case hw => exact ⟨[.list [.int 0, .int 1, .int 0, .int 1]], by decide +kernel, by decide +kernel⟩)
  k_fillS
  refine L2.walk_specK (r := PySem.Challenge.rw_mineshaft_s01_answers) (k := 60) (CX := L2.CX0) (ps := ["calls"]) (sp := Ms.spAnswers) (by decide +kernel) rfl rfl ⟨rfl, by decide, by decide⟩ (fun w h Y => PySem.W.kIn_of Y) ?F ?S (fun _ _ _ _ z => z)
  case F =>
    intro w mg fa h Y KX G hmg
    clear Y
    obtain ⟨CLevel, cfLevel, na_Level_depth, na_Level_rate, na_Level_clears, na_Level_fan, na_Level_gas, na_Level_ore⟩ : ∃ C, Ms.ClF (L2.KOf KX) mg "Level" "Level.__init__" Ms.tLevel ["self", "depth", "rate", "clears"] C ∧ PySem.W.findIn (L2.KOf KX) (.ref C) "depth" = some none ∧ PySem.W.findIn (L2.KOf KX) (.ref C) "rate" = some none ∧ PySem.W.findIn (L2.KOf KX) (.ref C) "clears" = some none ∧ PySem.W.findIn (L2.KOf KX) (.ref C) "fan" = some none ∧ PySem.W.findIn (L2.KOf KX) (.ref C) "gas" = some none ∧ PySem.W.findIn (L2.KOf KX) (.ref C) "ore" = some none := by
      dsimp only [L2.KOf]
      refine' ⟨_, Ms.clf_mk KX G ?a ?i ?ifn ?l ?c ?k ?pg ?hd ?po ?sa ?mk ?kc (fun _ _ _ _ _ _ us hl => match us, hl with | [_, _, _, _], _ => rfl), ?n0, ?n1, ?n2, ?n3, ?n4, ?n5⟩
      (case a => k_is); (case i => k_is); (case ifn => k_is); (case l => k_is); (case c => k_is); (case k => k_is); (case pg => k_is); (case hd => k_is); (case po => k_is); (case sa => k_is); (case mk => k_is); (case kc => k_is); (case n0 => k_is); (case n1 => k_is); (case n2 => k_is); (case n3 => k_is); (case n4 => k_is); (case n5 => k_is)
    obtain ⟨CPerson, cfPerson, na_Person_place, na_Person_since⟩ : ∃ C, Ms.ClF (L2.KOf KX) mg "Person" "Person.__init__" Ms.tPerson ["self", "place", "since"] C ∧ PySem.W.findIn (L2.KOf KX) (.ref C) "place" = some none ∧ PySem.W.findIn (L2.KOf KX) (.ref C) "since" = some none := by
      dsimp only [L2.KOf]
      refine' ⟨_, Ms.clf_mk KX G ?a ?i ?ifn ?l ?c ?k ?pg ?hd ?po ?sa ?mk ?kc (fun _ _ _ _ _ _ us hl => match us, hl with | [_, _, _], _ => rfl), ?n0, ?n1⟩
      (case a => k_is); (case i => k_is); (case ifn => k_is); (case l => k_is); (case c => k_is); (case k => k_is); (case pg => k_is); (case hd => k_is); (case po => k_is); (case sa => k_is); (case mk => k_is); (case kc => k_is); (case n0 => k_is); (case n1 => k_is)
    obtain ⟨CShaft, cfShaft, na_Shaft_room, na_Shaft_rope, na_Shaft_speed, na_Shaft_worn, na_Shaft_minute, na_Shaft_levels, na_Shaft_persons, na_Shaft_cage, na_Shaft_tub, na_Shaft_dumped, na_Shaft_mined, na_Shaft_locks⟩ : ∃ C, Ms.ClF (L2.KOf KX) mg "Shaft" "Shaft.__init__" Ms.tShaft ["self", "room", "rope", "speed"] C ∧ PySem.W.findIn (L2.KOf KX) (.ref C) "room" = some none ∧ PySem.W.findIn (L2.KOf KX) (.ref C) "rope" = some none ∧ PySem.W.findIn (L2.KOf KX) (.ref C) "speed" = some none ∧ PySem.W.findIn (L2.KOf KX) (.ref C) "worn" = some none ∧ PySem.W.findIn (L2.KOf KX) (.ref C) "minute" = some none ∧ PySem.W.findIn (L2.KOf KX) (.ref C) "levels" = some none ∧ PySem.W.findIn (L2.KOf KX) (.ref C) "persons" = some none ∧ PySem.W.findIn (L2.KOf KX) (.ref C) "cage" = some none ∧ PySem.W.findIn (L2.KOf KX) (.ref C) "tub" = some none ∧ PySem.W.findIn (L2.KOf KX) (.ref C) "dumped" = some none ∧ PySem.W.findIn (L2.KOf KX) (.ref C) "mined" = some none ∧ PySem.W.findIn (L2.KOf KX) (.ref C) "locks" = some none := by
      dsimp only [L2.KOf]
      refine' ⟨_, Ms.clf_mk KX G ?a ?i ?ifn ?l ?c ?k ?pg ?hd ?po ?sa ?mk ?kc (fun _ _ _ _ _ _ us hl => match us, hl with | [_, _, _, _], _ => rfl), ?n0, ?n1, ?n2, ?n3, ?n4, ?n5, ?n6, ?n7, ?n8, ?n9, ?n10, ?n11⟩
      (case a => k_is); (case i => k_is); (case ifn => k_is); (case l => k_is); (case c => k_is); (case k => k_is); (case pg => k_is); (case hd => k_is); (case po => k_is); (case sa => k_is); (case mk => k_is); (case kc => k_is); (case n0 => k_is); (case n1 => k_is); (case n2 => k_is); (case n3 => k_is); (case n4 => k_is); (case n5 => k_is); (case n6 => k_is); (case n7 => k_is); (case n8 => k_is); (case n9 => k_is); (case n10 => k_is); (case n11 => k_is)
    obtain ⟨CHistory, cfHistory, na_History_shaft, na_History_past, na_History_future⟩ : ∃ C, Ms.ClF (L2.KOf KX) mg "History" "History.__init__" Ms.tHistory ["self"] C ∧ PySem.W.findIn (L2.KOf KX) (.ref C) "shaft" = some none ∧ PySem.W.findIn (L2.KOf KX) (.ref C) "past" = some none ∧ PySem.W.findIn (L2.KOf KX) (.ref C) "future" = some none := by
      dsimp only [L2.KOf]
      refine' ⟨_, Ms.clf_mk KX G ?a ?i ?ifn ?l ?c ?k ?pg ?hd ?po ?sa ?mk ?kc (fun _ _ _ _ _ _ us hl => match us, hl with | [_], _ => rfl), ?n0, ?n1, ?n2⟩
      (case a => k_is); (case i => k_is); (case ifn => k_is); (case l => k_is); (case c => k_is); (case k => k_is); (case pg => k_is); (case hd => k_is); (case po => k_is); (case sa => k_is); (case mk => k_is); (case kc => k_is); (case n0 => k_is); (case n1 => k_is); (case n2 => k_is)
    have d_copy_of_level : ∃ f fd, Ms.Df (L2.KOf KX) mg "copy_of_level" Ms.t_copy_of_level ["level"] f fd := by
      dsimp only [L2.KOf]
      refine' Ms.df_mk KX G ?a ?l ?c ?k (fun _ _ _ _ _ _ us hl => match us, hl with | [_], _ => rfl)
      (case a => k_is); (case l => k_is); (case c => k_is); (case k => k_is)
    have d_copy_of_shaft : ∃ f fd, Ms.Df (L2.KOf KX) mg "copy_of_shaft" Ms.t_copy_of_shaft ["shaft"] f fd := by
      dsimp only [L2.KOf]
      refine' Ms.df_mk KX G ?a ?l ?c ?k (fun _ _ _ _ _ _ us hl => match us, hl with | [_], _ => rfl)
      (case a => k_is); (case l => k_is); (case c => k_is); (case k => k_is)
    have d_is_level : ∃ f fd, Ms.Df (L2.KOf KX) mg "is_level" Ms.t_is_level ["shaft", "number"] f fd := by
      dsimp only [L2.KOf]
      refine' Ms.df_mk KX G ?a ?l ?c ?k (fun _ _ _ _ _ _ us hl => match us, hl with | [_, _], _ => rfl)
      (case a => k_is); (case l => k_is); (case c => k_is); (case k => k_is)
    have d_is_below : ∃ f fd, Ms.Df (L2.KOf KX) mg "is_below" Ms.t_is_below ["person"] f fd := by
      dsimp only [L2.KOf]
      refine' Ms.df_mk KX G ?a ?l ?c ?k (fun _ _ _ _ _ _ us hl => match us, hl with | [_], _ => rfl)
      (case a => k_is); (case l => k_is); (case c => k_is); (case k => k_is)
    have d_persons_at : ∃ f fd, Ms.Df (L2.KOf KX) mg "persons_at" Ms.t_persons_at ["shaft", "place"] f fd := by
      dsimp only [L2.KOf]
      refine' Ms.df_mk KX G ?a ?l ?c ?k (fun _ _ _ _ _ _ us hl => match us, hl with | [_, _], _ => rfl)
      (case a => k_is); (case l => k_is); (case c => k_is); (case k => k_is)
    have d_count_at : ∃ f fd, Ms.Df (L2.KOf KX) mg "count_at" Ms.t_count_at ["shaft", "place"] f fd := by
      dsimp only [L2.KOf]
      refine' Ms.df_mk KX G ?a ?l ?c ?k (fun _ _ _ _ _ _ us hl => match us, hl with | [_, _], _ => rfl)
      (case a => k_is); (case l => k_is); (case c => k_is); (case k => k_is)
    have d_on_the_rope : ∃ f fd, Ms.Df (L2.KOf KX) mg "on_the_rope" Ms.t_on_the_rope ["shaft"] f fd := by
      dsimp only [L2.KOf]
      refine' Ms.df_mk KX G ?a ?l ?c ?k (fun _ _ _ _ _ _ us hl => match us, hl with | [_], _ => rfl)
      (case a => k_is); (case l => k_is); (case c => k_is); (case k => k_is)
    have d_is_foul : ∃ f fd, Ms.Df (L2.KOf KX) mg "is_foul" Ms.t_is_foul ["level"] f fd := by
      dsimp only [L2.KOf]
      refine' Ms.df_mk KX G ?a ?l ?c ?k (fun _ _ _ _ _ _ us hl => match us, hl with | [_], _ => rfl)
      (case a => k_is); (case l => k_is); (case c => k_is); (case k => k_is)
    have d_gain_in_a_minute : ∃ f fd, Ms.Df (L2.KOf KX) mg "gain_in_a_minute" Ms.t_gain_in_a_minute ["level"] f fd := by
      dsimp only [L2.KOf]
      refine' Ms.df_mk KX G ?a ?l ?c ?k (fun _ _ _ _ _ _ us hl => match us, hl with | [_], _ => rfl)
      (case a => k_is); (case l => k_is); (case c => k_is); (case k => k_is)
    have d_gas_after : ∃ f fd, Ms.Df (L2.KOf KX) mg "gas_after" Ms.t_gas_after ["level", "minutes"] f fd := by
      dsimp only [L2.KOf]
      refine' Ms.df_mk KX G ?a ?l ?c ?k (fun _ _ _ _ _ _ us hl => match us, hl with | [_, _], _ => rfl)
      (case a => k_is); (case l => k_is); (case c => k_is); (case k => k_is)
    have d_pass_minutes : ∃ f fd, Ms.Df (L2.KOf KX) mg "pass_minutes" Ms.t_pass_minutes ["shaft", "minutes"] f fd := by
      dsimp only [L2.KOf]
      refine' Ms.df_mk KX G ?a ?l ?c ?k (fun _ _ _ _ _ _ us hl => match us, hl with | [_, _], _ => rfl)
      (case a => k_is); (case l => k_is); (case c => k_is); (case k => k_is)
    have d_levels_of_those_below : ∃ f fd, Ms.Df (L2.KOf KX) mg "levels_of_those_below" Ms.t_levels_of_those_below ["shaft"] f fd := by
      dsimp only [L2.KOf]
      refine' Ms.df_mk KX G ?a ?l ?c ?k (fun _ _ _ _ _ _ us hl => match us, hl with | [_], _ => rfl)
      (case a => k_is); (case l => k_is); (case c => k_is); (case k => k_is)
    have d_taken_along : ∃ f fd, Ms.Df (L2.KOf KX) mg "taken_along" Ms.t_taken_along ["shaft"] f fd := by
      dsimp only [L2.KOf]
      refine' Ms.df_mk KX G ?a ?l ?c ?k (fun _ _ _ _ _ _ us hl => match us, hl with | [_], _ => rfl)
      (case a => k_is); (case l => k_is); (case c => k_is); (case k => k_is)
    have d_groups_to_fetch : ∃ f fd, Ms.Df (L2.KOf KX) mg "groups_to_fetch" Ms.t_groups_to_fetch ["shaft"] f fd := by
      dsimp only [L2.KOf]
      refine' Ms.df_mk KX G ?a ?l ?c ?k (fun _ _ _ _ _ _ us hl => match us, hl with | [_], _ => rfl)
      (case a => k_is); (case l => k_is); (case c => k_is); (case k => k_is)
    have d_wear_to_fetch : ∃ f fd, Ms.Df (L2.KOf KX) mg "wear_to_fetch" Ms.t_wear_to_fetch ["shaft", "group"] f fd := by
      dsimp only [L2.KOf]
      refine' Ms.df_mk KX G ?a ?l ?c ?k (fun _ _ _ _ _ _ us hl => match us, hl with | [_, _], _ => rfl)
      (case a => k_is); (case l => k_is); (case c => k_is); (case k => k_is)
    have d_needed : ∃ f fd, Ms.Df (L2.KOf KX) mg "needed" Ms.t_needed ["shaft"] f fd := by
      dsimp only [L2.KOf]
      refine' Ms.df_mk KX G ?a ?l ?c ?k (fun _ _ _ _ _ _ us hl => match us, hl with | [_], _ => rfl)
      (case a => k_is); (case l => k_is); (case c => k_is); (case k => k_is)
    have d_is_safe : ∃ f fd, Ms.Df (L2.KOf KX) mg "is_safe" Ms.t_is_safe ["shaft"] f fd := by
      dsimp only [L2.KOf]
      refine' Ms.df_mk KX G ?a ?l ?c ?k (fun _ _ _ _ _ _ us hl => match us, hl with | [_], _ => rfl)
      (case a => k_is); (case l => k_is); (case c => k_is); (case k => k_is)
    have d_step_above_ground : ∃ f fd, Ms.Df (L2.KOf KX) mg "step_above_ground" Ms.t_step_above_ground ["shaft"] f fd := by
      dsimp only [L2.KOf]
      refine' Ms.df_mk KX G ?a ?l ?c ?k (fun _ _ _ _ _ _ us hl => match us, hl with | [_], _ => rfl)
      (case a => k_is); (case l => k_is); (case c => k_is); (case k => k_is)
    have d_step_below_ground : ∃ f fd, Ms.Df (L2.KOf KX) mg "step_below_ground" Ms.t_step_below_ground ["shaft"] f fd := by
      dsimp only [L2.KOf]
      refine' Ms.df_mk KX G ?a ?l ?c ?k (fun _ _ _ _ _ _ us hl => match us, hl with | [_], _ => rfl)
      (case a => k_is); (case l => k_is); (case c => k_is); (case k => k_is)
    have d_next_step : ∃ f fd, Ms.Df (L2.KOf KX) mg "next_step" Ms.t_next_step ["shaft"] f fd := by
      dsimp only [L2.KOf]
      refine' Ms.df_mk KX G ?a ?l ?c ?k (fun _ _ _ _ _ _ us hl => match us, hl with | [_], _ => rfl)
      (case a => k_is); (case l => k_is); (case c => k_is); (case k => k_is)
    have d_metres_to : ∃ f fd, Ms.Df (L2.KOf KX) mg "metres_to" Ms.t_metres_to ["shaft", "number"] f fd := by
      dsimp only [L2.KOf]
      refine' Ms.df_mk KX G ?a ?l ?c ?k (fun _ _ _ _ _ _ us hl => match us, hl with | [_, _], _ => rfl)
      (case a => k_is); (case l => k_is); (case c => k_is); (case k => k_is)
    have d_wear_to : ∃ f fd, Ms.Df (L2.KOf KX) mg "wear_to" Ms.t_wear_to ["shaft", "number"] f fd := by
      dsimp only [L2.KOf]
      refine' Ms.df_mk KX G ?a ?l ?c ?k (fun _ _ _ _ _ _ us hl => match us, hl with | [_, _], _ => rfl)
      (case a => k_is); (case l => k_is); (case c => k_is); (case k => k_is)
    have d_move_cage : ∃ f fd, Ms.Df (L2.KOf KX) mg "move_cage" Ms.t_move_cage ["shaft", "number"] f fd := by
      dsimp only [L2.KOf]
      refine' Ms.df_mk KX G ?a ?l ?c ?k (fun _ _ _ _ _ _ us hl => match us, hl with | [_, _], _ => rfl)
      (case a => k_is); (case l => k_is); (case c => k_is); (case k => k_is)
    have d_would_be_safe_at : ∃ f fd, Ms.Df (L2.KOf KX) mg "would_be_safe_at" Ms.t_would_be_safe_at ["shaft", "number"] f fd := by
      dsimp only [L2.KOf]
      refine' Ms.df_mk KX G ?a ?l ?c ?k (fun _ _ _ _ _ _ us hl => match us, hl with | [_, _], _ => rfl)
      (case a => k_is); (case l => k_is); (case c => k_is); (case k => k_is)
    have d_winding_refusal : ∃ f fd, Ms.Df (L2.KOf KX) mg "winding_refusal" Ms.t_winding_refusal ["shaft", "number"] f fd := by
      dsimp only [L2.KOf]
      refine' Ms.df_mk KX G ?a ?l ?c ?k (fun _ _ _ _ _ _ us hl => match us, hl with | [_, _], _ => rfl)
      (case a => k_is); (case l => k_is); (case c => k_is); (case k => k_is)
    have d_sh_level : ∃ f fd, Ms.Df (L2.KOf KX) mg "sh_level" Ms.t_sh_level ["shaft", "depth", "rate", "clears"] f fd := by
      dsimp only [L2.KOf]
      refine' Ms.df_mk KX G ?a ?l ?c ?k (fun _ _ _ _ _ _ us hl => match us, hl with | [_, _, _, _], _ => rfl)
      (case a => k_is); (case l => k_is); (case c => k_is); (case k => k_is)
    have d_sh_hire : ∃ f fd, Ms.Df (L2.KOf KX) mg "sh_hire" Ms.t_sh_hire ["shaft"] f fd := by
      dsimp only [L2.KOf]
      refine' Ms.df_mk KX G ?a ?l ?c ?k (fun _ _ _ _ _ _ us hl => match us, hl with | [_], _ => rfl)
      (case a => k_is); (case l => k_is); (case c => k_is); (case k => k_is)
    have d_sh_board : ∃ f fd, Ms.Df (L2.KOf KX) mg "sh_board" Ms.t_sh_board ["shaft", "number"] f fd := by
      dsimp only [L2.KOf]
      refine' Ms.df_mk KX G ?a ?l ?c ?k (fun _ _ _ _ _ _ us hl => match us, hl with | [_, _], _ => rfl)
      (case a => k_is); (case l => k_is); (case c => k_is); (case k => k_is)
    have d_sh_leave : ∃ f fd, Ms.Df (L2.KOf KX) mg "sh_leave" Ms.t_sh_leave ["shaft", "number"] f fd := by
      dsimp only [L2.KOf]
      refine' Ms.df_mk KX G ?a ?l ?c ?k (fun _ _ _ _ _ _ us hl => match us, hl with | [_, _], _ => rfl)
      (case a => k_is); (case l => k_is); (case c => k_is); (case k => k_is)
    have d_sh_wind : ∃ f fd, Ms.Df (L2.KOf KX) mg "sh_wind" Ms.t_sh_wind ["shaft", "number"] f fd := by
      dsimp only [L2.KOf]
      refine' Ms.df_mk KX G ?a ?l ?c ?k (fun _ _ _ _ _ _ us hl => match us, hl with | [_, _], _ => rfl)
      (case a => k_is); (case l => k_is); (case c => k_is); (case k => k_is)
    have d_sh_wait : ∃ f fd, Ms.Df (L2.KOf KX) mg "sh_wait" Ms.t_sh_wait ["shaft", "minutes"] f fd := by
      dsimp only [L2.KOf]
      refine' Ms.df_mk KX G ?a ?l ?c ?k (fun _ _ _ _ _ _ us hl => match us, hl with | [_, _], _ => rfl)
      (case a => k_is); (case l => k_is); (case c => k_is); (case k => k_is)
    have d_sh_fan : ∃ f fd, Ms.Df (L2.KOf KX) mg "sh_fan" Ms.t_sh_fan ["shaft", "number", "fan"] f fd := by
      dsimp only [L2.KOf]
      refine' Ms.df_mk KX G ?a ?l ?c ?k (fun _ _ _ _ _ _ us hl => match us, hl with | [_, _, _], _ => rfl)
      (case a => k_is); (case l => k_is); (case c => k_is); (case k => k_is)
    have d_sh_mine : ∃ f fd, Ms.Df (L2.KOf KX) mg "sh_mine" Ms.t_sh_mine ["shaft", "number", "kilograms"] f fd := by
      dsimp only [L2.KOf]
      refine' Ms.df_mk KX G ?a ?l ?c ?k (fun _ _ _ _ _ _ us hl => match us, hl with | [_, _, _], _ => rfl)
      (case a => k_is); (case l => k_is); (case c => k_is); (case k => k_is)
    have d_sh_load : ∃ f fd, Ms.Df (L2.KOf KX) mg "sh_load" Ms.t_sh_load ["shaft", "kilograms"] f fd := by
      dsimp only [L2.KOf]
      refine' Ms.df_mk KX G ?a ?l ?c ?k (fun _ _ _ _ _ _ us hl => match us, hl with | [_, _], _ => rfl)
      (case a => k_is); (case l => k_is); (case c => k_is); (case k => k_is)
    have d_sh_dump : ∃ f fd, Ms.Df (L2.KOf KX) mg "sh_dump" Ms.t_sh_dump ["shaft"] f fd := by
      dsimp only [L2.KOf]
      refine' Ms.df_mk KX G ?a ?l ?c ?k (fun _ _ _ _ _ _ us hl => match us, hl with | [_], _ => rfl)
      (case a => k_is); (case l => k_is); (case c => k_is); (case k => k_is)
    have d_sh_rope : ∃ f fd, Ms.Df (L2.KOf KX) mg "sh_rope" Ms.t_sh_rope ["shaft", "rope"] f fd := by
      dsimp only [L2.KOf]
      refine' Ms.df_mk KX G ?a ?l ?c ?k (fun _ _ _ _ _ _ us hl => match us, hl with | [_, _], _ => rfl)
      (case a => k_is); (case l => k_is); (case c => k_is); (case k => k_is)
    have d_sh_lock : ∃ f fd, Ms.Df (L2.KOf KX) mg "sh_lock" Ms.t_sh_lock ["shaft"] f fd := by
      dsimp only [L2.KOf]
      refine' Ms.df_mk KX G ?a ?l ?c ?k (fun _ _ _ _ _ _ us hl => match us, hl with | [_], _ => rfl)
      (case a => k_is); (case l => k_is); (case c => k_is); (case k => k_is)
    have d_door_refusal : ∃ f fd, Ms.Df (L2.KOf KX) mg "door_refusal" Ms.t_door_refusal ["shaft", "lock", "side", "wanted"] f fd := by
      dsimp only [L2.KOf]
      refine' Ms.df_mk KX G ?a ?l ?c ?k (fun _ _ _ _ _ _ us hl => match us, hl with | [_, _, _, _], _ => rfl)
      (case a => k_is); (case l => k_is); (case c => k_is); (case k => k_is)
    have d_sh_open : ∃ f fd, Ms.Df (L2.KOf KX) mg "sh_open" Ms.t_sh_open ["shaft", "lock", "side"] f fd := by
      dsimp only [L2.KOf]
      refine' Ms.df_mk KX G ?a ?l ?c ?k (fun _ _ _ _ _ _ us hl => match us, hl with | [_, _, _], _ => rfl)
      (case a => k_is); (case l => k_is); (case c => k_is); (case k => k_is)
    have d_sh_shut : ∃ f fd, Ms.Df (L2.KOf KX) mg "sh_shut" Ms.t_sh_shut ["shaft", "lock", "side"] f fd := by
      dsimp only [L2.KOf]
      refine' Ms.df_mk KX G ?a ?l ?c ?k (fun _ _ _ _ _ _ us hl => match us, hl with | [_, _, _], _ => rfl)
      (case a => k_is); (case l => k_is); (case c => k_is); (case k => k_is)
    have d_sh_start : ∃ f fd, Ms.Df (L2.KOf KX) mg "sh_start" Ms.t_sh_start ["history", "room", "rope", "speed"] f fd := by
      dsimp only [L2.KOf]
      refine' Ms.df_mk KX G ?a ?l ?c ?k (fun _ _ _ _ _ _ us hl => match us, hl with | [_, _, _, _], _ => rfl)
      (case a => k_is); (case l => k_is); (case c => k_is); (case k => k_is)
    have d_carry_out : ∃ f fd, Ms.Df (L2.KOf KX) mg "carry_out" Ms.t_carry_out ["call", "shaft", "numbers"] f fd := by
      dsimp only [L2.KOf]
      refine' Ms.df_mk KX G ?a ?l ?c ?k (fun _ _ _ _ _ _ us hl => match us, hl with | [_, _, _], _ => rfl)
      (case a => k_is); (case l => k_is); (case c => k_is); (case k => k_is)
    have d_make_change : ∃ f fd, Ms.Df (L2.KOf KX) mg "make_change" Ms.t_make_change ["history", "change", "numbers"] f fd := by
      dsimp only [L2.KOf]
      refine' Ms.df_mk KX G ?a ?l ?c ?k (fun _ _ _ _ _ _ us hl => match us, hl with | [_, _, _], _ => rfl)
      (case a => k_is); (case l => k_is); (case c => k_is); (case k => k_is)
    have d_ask : ∃ f fd, Ms.Df (L2.KOf KX) mg "ask" Ms.t_ask ["history", "question", "numbers"] f fd := by
      dsimp only [L2.KOf]
      refine' Ms.df_mk KX G ?a ?l ?c ?k (fun _ _ _ _ _ _ us hl => match us, hl with | [_, _, _], _ => rfl)
      (case a => k_is); (case l => k_is); (case c => k_is); (case k => k_is)
    have d_go_over : ∃ f fd, Ms.Df (L2.KOf KX) mg "go_over" Ms.t_go_over ["history", "source", "target"] f fd := by
      dsimp only [L2.KOf]
      refine' Ms.df_mk KX G ?a ?l ?c ?k (fun _ _ _ _ _ _ us hl => match us, hl with | [_, _, _], _ => rfl)
      (case a => k_is); (case l => k_is); (case c => k_is); (case k => k_is)
    have d_sh_back : ∃ f fd, Ms.Df (L2.KOf KX) mg "sh_back" Ms.t_sh_back ["history"] f fd := by
      dsimp only [L2.KOf]
      refine' Ms.df_mk KX G ?a ?l ?c ?k (fun _ _ _ _ _ _ us hl => match us, hl with | [_], _ => rfl)
      (case a => k_is); (case l => k_is); (case c => k_is); (case k => k_is)
    have d_sh_again : ∃ f fd, Ms.Df (L2.KOf KX) mg "sh_again" Ms.t_sh_again ["history"] f fd := by
      dsimp only [L2.KOf]
      refine' Ms.df_mk KX G ?a ?l ?c ?k (fun _ _ _ _ _ _ us hl => match us, hl with | [_], _ => rfl)
      (case a => k_is); (case l => k_is); (case c => k_is); (case k => k_is)
    have d_sh_state : ∃ f fd, Ms.Df (L2.KOf KX) mg "sh_state" Ms.t_sh_state ["history"] f fd := by
      dsimp only [L2.KOf]
      refine' Ms.df_mk KX G ?a ?l ?c ?k (fun _ _ _ _ _ _ us hl => match us, hl with | [_], _ => rfl)
      (case a => k_is); (case l => k_is); (case c => k_is); (case k => k_is)
    have d_as_bits : ∃ f fd, Ms.Df (L2.KOf KX) mg "as_bits" Ms.t_as_bits ["numbers"] f fd := by
      dsimp only [L2.KOf]
      refine' Ms.df_mk KX G ?a ?l ?c ?k (fun _ _ _ _ _ _ us hl => match us, hl with | [_], _ => rfl)
      (case a => k_is); (case l => k_is); (case c => k_is); (case k => k_is)
    have d_counted : ∃ f fd, Ms.Df (L2.KOf KX) mg "counted" Ms.t_counted ["numbers"] f fd := by
      dsimp only [L2.KOf]
      refine' Ms.df_mk KX G ?a ?l ?c ?k (fun _ _ _ _ _ _ us hl => match us, hl with | [_], _ => rfl)
      (case a => k_is); (case l => k_is); (case c => k_is); (case k => k_is)
    have d_sh_where : ∃ f fd, Ms.Df (L2.KOf KX) mg "sh_where" Ms.t_sh_where ["shaft", "number"] f fd := by
      dsimp only [L2.KOf]
      refine' Ms.df_mk KX G ?a ?l ?c ?k (fun _ _ _ _ _ _ us hl => match us, hl with | [_, _], _ => rfl)
      (case a => k_is); (case l => k_is); (case c => k_is); (case k => k_is)
    have d_sh_below : ∃ f fd, Ms.Df (L2.KOf KX) mg "sh_below" Ms.t_sh_below ["shaft"] f fd := by
      dsimp only [L2.KOf]
      refine' Ms.df_mk KX G ?a ?l ?c ?k (fun _ _ _ _ _ _ us hl => match us, hl with | [_], _ => rfl)
      (case a => k_is); (case l => k_is); (case c => k_is); (case k => k_is)
    have d_sh_who : ∃ f fd, Ms.Df (L2.KOf KX) mg "sh_who" Ms.t_sh_who ["shaft", "number"] f fd := by
      dsimp only [L2.KOf]
      refine' Ms.df_mk KX G ?a ?l ?c ?k (fun _ _ _ _ _ _ us hl => match us, hl with | [_, _], _ => rfl)
      (case a => k_is); (case l => k_is); (case c => k_is); (case k => k_is)
    have d_sh_cage : ∃ f fd, Ms.Df (L2.KOf KX) mg "sh_cage" Ms.t_sh_cage ["shaft"] f fd := by
      dsimp only [L2.KOf]
      refine' Ms.df_mk KX G ?a ?l ?c ?k (fun _ _ _ _ _ _ us hl => match us, hl with | [_], _ => rfl)
      (case a => k_is); (case l => k_is); (case c => k_is); (case k => k_is)
    have d_sh_need : ∃ f fd, Ms.Df (L2.KOf KX) mg "sh_need" Ms.t_sh_need ["shaft"] f fd := by
      dsimp only [L2.KOf]
      refine' Ms.df_mk KX G ?a ?l ?c ?k (fun _ _ _ _ _ _ us hl => match us, hl with | [_], _ => rfl)
      (case a => k_is); (case l => k_is); (case c => k_is); (case k => k_is)
    have d_sh_next : ∃ f fd, Ms.Df (L2.KOf KX) mg "sh_next" Ms.t_sh_next ["shaft"] f fd := by
      dsimp only [L2.KOf]
      refine' Ms.df_mk KX G ?a ?l ?c ?k (fun _ _ _ _ _ _ us hl => match us, hl with | [_], _ => rfl)
      (case a => k_is); (case l => k_is); (case c => k_is); (case k => k_is)
    have d_warning_of : ∃ f fd, Ms.Df (L2.KOf KX) mg "warning_of" Ms.t_warning_of ["level"] f fd := by
      dsimp only [L2.KOf]
      refine' Ms.df_mk KX G ?a ?l ?c ?k (fun _ _ _ _ _ _ us hl => match us, hl with | [_], _ => rfl)
      (case a => k_is); (case l => k_is); (case c => k_is); (case k => k_is)
    have d_sh_gas : ∃ f fd, Ms.Df (L2.KOf KX) mg "sh_gas" Ms.t_sh_gas ["shaft", "number"] f fd := by
      dsimp only [L2.KOf]
      refine' Ms.df_mk KX G ?a ?l ?c ?k (fun _ _ _ _ _ _ us hl => match us, hl with | [_, _], _ => rfl)
      (case a => k_is); (case l => k_is); (case c => k_is); (case k => k_is)
    have d_sh_foul : ∃ f fd, Ms.Df (L2.KOf KX) mg "sh_foul" Ms.t_sh_foul ["shaft"] f fd := by
      dsimp only [L2.KOf]
      refine' Ms.df_mk KX G ?a ?l ?c ?k (fun _ _ _ _ _ _ us hl => match us, hl with | [_], _ => rfl)
      (case a => k_is); (case l => k_is); (case c => k_is); (case k => k_is)
    have d_sh_long : ∃ f fd, Ms.Df (L2.KOf KX) mg "sh_long" Ms.t_sh_long ["shaft", "minutes"] f fd := by
      dsimp only [L2.KOf]
      refine' Ms.df_mk KX G ?a ?l ?c ?k (fun _ _ _ _ _ _ us hl => match us, hl with | [_, _], _ => rfl)
      (case a => k_is); (case l => k_is); (case c => k_is); (case k => k_is)
    have d_sh_may : ∃ f fd, Ms.Df (L2.KOf KX) mg "sh_may" Ms.t_sh_may ["shaft", "number"] f fd := by
      dsimp only [L2.KOf]
      refine' Ms.df_mk KX G ?a ?l ?c ?k (fun _ _ _ _ _ _ us hl => match us, hl with | [_, _], _ => rfl)
      (case a => k_is); (case l => k_is); (case c => k_is); (case k => k_is)
    have d_sh_ore : ∃ f fd, Ms.Df (L2.KOf KX) mg "sh_ore" Ms.t_sh_ore ["shaft"] f fd := by
      dsimp only [L2.KOf]
      refine' Ms.df_mk KX G ?a ?l ?c ?k (fun _ _ _ _ _ _ us hl => match us, hl with | [_], _ => rfl)
      (case a => k_is); (case l => k_is); (case c => k_is); (case k => k_is)
    have d_locks_open_at : ∃ f fd, Ms.Df (L2.KOf KX) mg "locks_open_at" Ms.t_locks_open_at ["shaft", "side"] f fd := by
      dsimp only [L2.KOf]
      refine' Ms.df_mk KX G ?a ?l ?c ?k (fun _ _ _ _ _ _ us hl => match us, hl with | [_, _], _ => rfl)
      (case a => k_is); (case l => k_is); (case c => k_is); (case k => k_is)
    have d_sh_doors : ∃ f fd, Ms.Df (L2.KOf KX) mg "sh_doors" Ms.t_sh_doors ["shaft"] f fd := by
      dsimp only [L2.KOf]
      refine' Ms.df_mk KX G ?a ?l ?c ?k (fun _ _ _ _ _ _ us hl => match us, hl with | [_], _ => rfl)
      (case a => k_is); (case l => k_is); (case c => k_is); (case k => k_is)
    have d_answer_to : ∃ f fd, Ms.Df (L2.KOf KX) mg "answer_to" Ms.t_answer_to ["history", "call", "numbers"] f fd := by
      dsimp only [L2.KOf]
      refine' Ms.df_mk KX G ?a ?l ?c ?k (fun _ _ _ _ _ _ us hl => match us, hl with | [_, _, _], _ => rfl)
      (case a => k_is); (case l => k_is); (case c => k_is); (case k => k_is)
    have d_answers : ∃ f fd, Ms.Df (L2.KOf KX) mg "answers" Ms.t_answers ["calls"] f fd := by
      dsimp only [L2.KOf]
      refine' Ms.df_mk KX G ?a ?l ?c ?k (fun _ _ _ _ _ _ us hl => match us, hl with | [_], _ => rfl)
      (case a => k_is); (case l => k_is); (case c => k_is); (case k => k_is)
    have k_MISSING : Ms.Cst mg "MISSING" (-2) := by
      refine' Ms.cst_mk KX G ?e
      (case e => k_is)
    have k_NOTHING : Ms.Cst mg "NOTHING" (-6) := by
      refine' Ms.cst_mk KX G ?e
      (case e => k_is)
    have k_TOO_LITTLE : Ms.Cst mg "TOO_LITTLE" (-12) := by
      refine' Ms.cst_mk KX G ?e
      (case e => k_is)
    have k_FOUL : Ms.Cst mg "FOUL" (-13) := by
      refine' Ms.cst_mk KX G ?e
      (case e => k_is)
    have k_HINDERED : Ms.Cst mg "HINDERED" (-16) := by
      refine' Ms.cst_mk KX G ?e
      (case e => k_is)
    have k_ALREADY : Ms.Cst mg "ALREADY" (-17) := by
      refine' Ms.cst_mk KX G ?e
      (case e => k_is)
    have k_WRONG : Ms.Cst mg "WRONG" (-22) := by
      refine' Ms.cst_mk KX G ?e
      (case e => k_is)
    have k_FULL : Ms.Cst mg "FULL" (-28) := by
      refine' Ms.cst_mk KX G ?e
      (case e => k_is)
    have k_UNSAFE : Ms.Cst mg "UNSAFE" (-62) := by
      refine' Ms.cst_mk KX G ?e
      (case e => k_is)
    have k_TOO_LATE : Ms.Cst mg "TOO_LATE" (-75) := by
      refine' Ms.cst_mk KX G ?e
      (case e => k_is)
    have k_IN_CAGE : Ms.Cst mg "IN_CAGE" (9) := by
      refine' Ms.cst_mk KX G ?e
      (case e => k_is)
    have k_CAGE_WEIGHT : Ms.Cst mg "CAGE_WEIGHT" (1000) := by
      refine' Ms.cst_mk KX G ?e
      (case e => k_is)
    have k_PERSON_WEIGHT : Ms.Cst mg "PERSON_WEIGHT" (80) := by
      refine' Ms.cst_mk KX G ?e
      (case e => k_is)
    have k_FOUL_ABOVE : Ms.Cst mg "FOUL_ABOVE" (10000) := by
      refine' Ms.cst_mk KX G ?e
      (case e => k_is)
    have k_BOARDS : Ms.Cst mg "BOARDS" (0) := by
      refine' Ms.cst_mk KX G ?e
      (case e => k_is)
    have k_LEAVES : Ms.Cst mg "LEAVES" (1) := by
      refine' Ms.cst_mk KX G ?e
      (case e => k_is)
    have k_IS_WOUND : Ms.Cst mg "IS_WOUND" (2) := by
      refine' Ms.cst_mk KX G ?e
      (case e => k_is)
    have k_IS_DUMPED : Ms.Cst mg "IS_DUMPED" (3) := by
      refine' Ms.cst_mk KX G ?e
      (case e => k_is)
    have k_MOST_LEVELS : Ms.Cst mg "MOST_LEVELS" (5) := by
      refine' Ms.cst_mk KX G ?e
      (case e => k_is)
    have k_DEEPEST : Ms.Cst mg "DEEPEST" (2000) := by
      refine' Ms.cst_mk KX G ?e
      (case e => k_is)
    have k_MOST_GAS : Ms.Cst mg "MOST_GAS" (2000) := by
      refine' Ms.cst_mk KX G ?e
      (case e => k_is)
    have k_MOST_CLEARED : Ms.Cst mg "MOST_CLEARED" (5000) := by
      refine' Ms.cst_mk KX G ?e
      (case e => k_is)
    have k_MOST_PERSONS : Ms.Cst mg "MOST_PERSONS" (24) := by
      refine' Ms.cst_mk KX G ?e
      (case e => k_is)
    have k_LONGEST_WAIT : Ms.Cst mg "LONGEST_WAIT" (1440) := by
      refine' Ms.cst_mk KX G ?e
      (case e => k_is)
    have k_LAST_MINUTE_TO_WAIT : Ms.Cst mg "LAST_MINUTE_TO_WAIT" (999000) := by
      refine' Ms.cst_mk KX G ?e
      (case e => k_is)
    have k_LAST_MINUTE_TO_WIND : Ms.Cst mg "LAST_MINUTE_TO_WIND" (1000000) := by
      refine' Ms.cst_mk KX G ?e
      (case e => k_is)
    have k_MOST_MINED_AT_ONCE : Ms.Cst mg "MOST_MINED_AT_ONCE" (10000) := by
      refine' Ms.cst_mk KX G ?e
      (case e => k_is)
    have k_MOST_EVER_MINED : Ms.Cst mg "MOST_EVER_MINED" (2000000000) := by
      refine' Ms.cst_mk KX G ?e
      (case e => k_is)
    have k_TUB_HOLDS : Ms.Cst mg "TUB_HOLDS" (3000) := by
      refine' Ms.cst_mk KX G ?e
      (case e => k_is)
    have k_STRONGEST_ROPE : Ms.Cst mg "STRONGEST_ROPE" (2000000000) := by
      refine' Ms.cst_mk KX G ?e
      (case e => k_is)
    have k_MOST_LOCKS : Ms.Cst mg "MOST_LOCKS" (4) := by
      refine' Ms.cst_mk KX G ?e
      (case e => k_is)
    have k_MOST_ROOM : Ms.Cst mg "MOST_ROOM" (8) := by
      refine' Ms.cst_mk KX G ?e
      (case e => k_is)
    have k_MOST_SPEED : Ms.Cst mg "MOST_SPEED" (1000) := by
      refine' Ms.cst_mk KX G ?e
      (case e => k_is)
    have k_MOST_TAKEN_BACK : Ms.Cst mg "MOST_TAKEN_BACK" (30) := by
      refine' Ms.cst_mk KX G ?e
      (case e => k_is)
    have k_FORESEEN_MINUTES : Ms.Cst mg "FORESEEN_MINUTES" (1440) := by
      refine' Ms.cst_mk KX G ?e
      (case e => k_is)
    have k_START : Ms.Cst mg "START" (0) := by
      refine' Ms.cst_mk KX G ?e
      (case e => k_is)
    have k_FIRST_CHANGE : Ms.Cst mg "FIRST_CHANGE" (1) := by
      refine' Ms.cst_mk KX G ?e
      (case e => k_is)
    have k_FIRST_QUESTION : Ms.Cst mg "FIRST_QUESTION" (15) := by
      refine' Ms.cst_mk KX G ?e
      (case e => k_is)
    have k_BACK : Ms.Cst mg "BACK" (27) := by
      refine' Ms.cst_mk KX G ?e
      (case e => k_is)
    have k_AGAIN : Ms.Cst mg "AGAIN" (28) := by
      refine' Ms.cst_mk KX G ?e
      (case e => k_is)
    have b_len : mg "len" = none := by
      refine' PySem.W.mg_none_of KX G ?e
      (case e => k_is)
    have b_sorted : mg "sorted" = none := by
      refine' PySem.W.mg_none_of KX G ?e
      (case e => k_is)
    have b_range : mg "range" = none := by
      refine' PySem.W.mg_none_of KX G ?e
      (case e => k_is)
    have b_sum : mg "sum" = none := by
      refine' PySem.W.mg_none_of KX G ?e
      (case e => k_is)
    have b_any : mg "any" = none := by
      refine' PySem.W.mg_none_of KX G ?e
      (case e => k_is)
    have b_max : mg "max" = none := by
      refine' PySem.W.mg_none_of KX G ?e
      (case e => k_is)
    have b_abs : mg "abs" = none := by
      refine' PySem.W.mg_none_of KX G ?e
      (case e => k_is)
    have b_list : mg "list" = none := by
      refine' PySem.W.mg_none_of KX G ?e
      (case e => k_is)
    have b_enumerate : mg "enumerate" = none := by
      refine' PySem.W.mg_none_of KX G ?e
      (case e => k_is)
    have tb_CHANGES : Ms.TbF (L2.KOf KX) mg "CHANGES" ["sh_level", "sh_hire", "sh_board", "sh_leave", "sh_wind", "sh_wait", "sh_fan", "sh_mine", "sh_load", "sh_dump", "sh_rope", "sh_lock", "sh_open", "sh_shut"] := by
      dsimp only [L2.KOf]
      refine' Ms.tbf_mk KX G ?a ?l (.cons ?b0 (.cons ?b1 (.cons ?b2 (.cons ?b3 (.cons ?b4 (.cons ?b5 (.cons ?b6 (.cons ?b7 (.cons ?b8 (.cons ?b9 (.cons ?b10 (.cons ?b11 (.cons ?b12 (.cons ?b13 .nil)))))))))))))) ?e ?hs
      (case a => k_is); (case l => k_is); (case b0 => k_is); (case b1 => k_is); (case b2 => k_is); (case b3 => k_is); (case b4 => k_is); (case b5 => k_is); (case b6 => k_is); (case b7 => k_is); (case b8 => k_is); (case b9 => k_is); (case b10 => k_is); (case b11 => k_is); (case b12 => k_is); (case b13 => k_is); (case e => rfl); (case hs => decide)
    have tb_QUESTIONS : Ms.TbF (L2.KOf KX) mg "QUESTIONS" ["sh_where", "sh_below", "sh_who", "sh_cage", "sh_need", "sh_next", "sh_gas", "sh_foul", "sh_long", "sh_may", "sh_ore", "sh_doors"] := by
      dsimp only [L2.KOf]
      refine' Ms.tbf_mk KX G ?a ?l (.cons ?b0 (.cons ?b1 (.cons ?b2 (.cons ?b3 (.cons ?b4 (.cons ?b5 (.cons ?b6 (.cons ?b7 (.cons ?b8 (.cons ?b9 (.cons ?b10 (.cons ?b11 .nil)))))))))))) ?e ?hs
      (case a => k_is); (case l => k_is); (case b0 => k_is); (case b1 => k_is); (case b2 => k_is); (case b3 => k_is); (case b4 => k_is); (case b5 => k_is); (case b6 => k_is); (case b7 => k_is); (case b8 => k_is); (case b9 => k_is); (case b10 => k_is); (case b11 => k_is); (case e => rfl); (case hs => decide)
    have tb_NUMBERS : Ms.Tb (L2.KOf KX) mg "NUMBERS_OF_CALL" (Ms.ars.map Ms.vN) := by
      dsimp only [L2.KOf]
      refine' Ms.tbi_mk KX G ?a ?l ?hs ?hv
      (case a => k_is); (case l => k_is); (case hs => decide); (case hv => exact (.cons ⟨_, rfl⟩ (.cons ⟨_, rfl⟩ (.cons ⟨_, rfl⟩ (.cons ⟨_, rfl⟩ (.cons ⟨_, rfl⟩ (.cons ⟨_, rfl⟩ (.cons ⟨_, rfl⟩ (.cons ⟨_, rfl⟩ (.cons ⟨_, rfl⟩ (.cons ⟨_, rfl⟩ (.cons ⟨_, rfl⟩ (.cons ⟨_, rfl⟩ (.cons ⟨_, rfl⟩ (.cons ⟨_, rfl⟩ (.cons ⟨_, rfl⟩ (.cons ⟨_, rfl⟩ (.cons ⟨_, rfl⟩ (.cons ⟨_, rfl⟩ (.cons ⟨_, rfl⟩ (.cons ⟨_, rfl⟩ (.cons ⟨_, rfl⟩ (.cons ⟨_, rfl⟩ (.cons ⟨_, rfl⟩ (.cons ⟨_, rfl⟩ (.cons ⟨_, rfl⟩ (.cons ⟨_, rfl⟩ (.cons ⟨_, rfl⟩ (.cons ⟨_, rfl⟩ (.cons ⟨_, rfl⟩ (.cons ⟨_, rfl⟩ .nil)))))))))))))))))))))))))))))))
    have T : Ms.Txt (L2.KOf KX) mg ⟨CLevel, CPerson, CShaft, CHistory⟩ := ⟨cfLevel.cls, cfPerson.cls, cfShaft.cls, cfHistory.cls, na_Level_depth, na_Level_rate, na_Level_clears, na_Level_fan, na_Level_gas, na_Level_ore, na_Person_place, na_Person_since, na_Shaft_room, na_Shaft_rope, na_Shaft_speed, na_Shaft_worn, na_Shaft_minute, na_Shaft_levels, na_Shaft_persons, na_Shaft_cage, na_Shaft_tub, na_Shaft_dumped, na_Shaft_mined, na_Shaft_locks, na_History_shaft, na_History_past, na_History_future, b_len, b_sorted, b_range, b_sum, b_any, b_max, b_abs, b_list, b_enumerate, k_MISSING, k_NOTHING, k_TOO_LITTLE, k_FOUL, k_HINDERED, k_ALREADY, k_WRONG, k_FULL, k_UNSAFE, k_TOO_LATE, k_IN_CAGE, k_CAGE_WEIGHT, k_PERSON_WEIGHT, k_FOUL_ABOVE, k_BOARDS, k_LEAVES, k_IS_WOUND, k_IS_DUMPED, k_MOST_LEVELS, k_DEEPEST, k_MOST_GAS, k_MOST_CLEARED, k_MOST_PERSONS, k_LONGEST_WAIT, k_LAST_MINUTE_TO_WAIT, k_LAST_MINUTE_TO_WIND, k_MOST_MINED_AT_ONCE, k_MOST_EVER_MINED, k_TUB_HOLDS, k_STRONGEST_ROPE, k_MOST_LOCKS, k_MOST_ROOM, k_MOST_SPEED, k_MOST_TAKEN_BACK, k_FORESEEN_MINUTES, k_START, k_FIRST_CHANGE, k_FIRST_QUESTION, k_BACK, k_AGAIN⟩
    have S : Ms.Defs (L2.KOf KX) mg ⟨CLevel, CPerson, CShaft, CHistory⟩ := ⟨cfLevel.dc, cfPerson.dc, d_is_below, d_is_foul, d_gain_in_a_minute, d_gas_after, d_persons_at, d_count_at, d_on_the_rope, d_pass_minutes, d_copy_of_level, cfShaft.dc, d_copy_of_shaft, d_levels_of_those_below, d_taken_along, d_groups_to_fetch, d_wear_to_fetch, d_needed, d_is_safe, d_is_level, d_sh_level, d_sh_hire, d_sh_board, d_sh_leave, d_metres_to, d_wear_to, d_move_cage, d_would_be_safe_at, d_winding_refusal, d_sh_wind, d_sh_wait, d_sh_fan, d_sh_mine, d_sh_load, d_sh_dump, d_sh_rope, d_sh_lock, d_door_refusal, d_sh_open, d_sh_shut, d_as_bits, d_counted, d_sh_where, d_sh_below, d_sh_who, d_sh_cage, d_sh_need, d_step_above_ground, d_step_below_ground, d_next_step, d_sh_next, d_warning_of, d_sh_gas, d_sh_foul, d_sh_long, d_sh_may, d_sh_ore, d_locks_open_at, d_sh_doors, cfHistory.dc, d_sh_start, d_carry_out, d_make_change, d_ask, d_go_over, d_sh_back, d_sh_again, d_sh_state, d_answer_to, d_answers⟩
    obtain ⟨fd, h1, h2⟩ := Ms.whole (P := PySem.Challenge.rw_mineshaft_s01_answers.prog) (w := w) T S tb_NUMBERS tb_CHANGES tb_QUESTIONS (fa := fa) hmg
    exact ⟨fd, h1, fun base _ _ => h2 base⟩
  case S =>
    intro K H xs a hO hwi hask hx
    cases hx with
    | cons h1 h2 =>
      cases h2
      cases h1 with
      | lst hs ha =>
        have e := L2.ints_dw a.1 _ ha
        subst e
        have q : ((Codec.inLen 0 20000 a.1 && a.1.all (Codec.inInt 0 4294967295)) && true) = true := hwi
        rw [Bool.and_eq_true, Bool.and_eq_true] at q
        exact Ms.spec_in a.1 hs q.1.2 hask (fun H' p hp => .lst (L2.SqL.of hp) (L2.dw_ints _))
#print axioms PySem.Challenge.cw_mineshaft_s01_answers_holds
