import PyProof.Rows.All
import Wide.All
import OpenK.AllK
import Wide.FinOn
import PyProof.EqAt
import PyProof.EqKinds
import PyProof.TupleCall
import KE.BitLaws
import Open.SpecLaws
import KE.OsHead
import KE.OsGo
import PyProof.Rows.SortShellAny
import PySem.Challenge.RW_lanedesk_s11_pass_of
set_option Elab.async false
set_option linter.all false
set_option maxRecDepth 100000
/-! THE HAND LAYER, for ints, bools, texts, own classes, lists, tuples, dicts, comprehensions, walks over dicts, enumerate, zip, reversed, texts, calls, loops. Paste it whole ahead of your own text; what your proof does not reach may be deleted. -/
namespace L2
open PySem PySem.Spec PyProof.Rows

/-- a key: an int or a str -/
abbrev Key := Sum Int Str
def keyIs : Key → Value → Bool
  | .inl k, v => Value.isInt k v
  | .inr x, v => Value.isStrOf x v
def keyH (w : World) : Key → Int
  | .inl k => hashInt k
  | .inr x => hashStr w x
theorem keyIs_shape : ∀ {k : Key} {v : Value}, keyIs k v = true → (∃ i t, k = Sum.inl i ∧ v = Value.int i t) ∨ (∃ x t, k = Sum.inr x ∧ v = Value.str x t)
  | .inl i, v, h => by
    obtain ⟨t, e⟩ := Value.isInt_shape (k := i) (v := v) h
    exact .inl ⟨i, t, rfl, e⟩
  | .inr x, v, h => by
    obtain ⟨t, e⟩ := Value.isStrOf_shape (x := x) (v := v) h
    exact .inr ⟨x, t, rfl, e⟩
theorem key_ll (a b : Int) : decide ((Sum.inl a : Key) = Sum.inl b) = (a == b) := by
  by_cases e : a = b
  · subst e; simp
  · have h : ¬ (Sum.inl a : Key) = Sum.inl b := fun q => e (Sum.inl.inj q)
    rw [decide_eq_false h]
    exact (beq_eq_false_iff_ne.mpr e).symm
theorem key_rr (a b : Str) : decide ((Sum.inr a : Key) = Sum.inr b) = decide (a = b) := by
  by_cases e : a = b
  · subst e; simp
  · have h : ¬ (Sum.inr a : Key) = Sum.inr b := fun q => e (Sum.inr.inj q)
    rw [decide_eq_false h, decide_eq_false e]
theorem key_lr (a : Int) (b : Str) : decide ((Sum.inl a : Key) = Sum.inr b) = false := decide_eq_false (fun q => nomatch q)
theorem key_rl (a : Str) (b : Int) : decide ((Sum.inr a : Key) = Sum.inl b) = false := decide_eq_false (fun q => nomatch q)

def mixKind (prog : Program) (w : World) : PySem.KeyKind prog w Key where
  is := keyIs
  hash := keyH w
  inj := fun v a b ha hb => by
    rcases keyIs_shape ha with ⟨i, t, rfl, rfl⟩ | ⟨x, t, rfl, rfl⟩
    · rcases keyIs_shape hb with ⟨j, u, rfl, e⟩ | ⟨y, u, rfl, e⟩
      · injection e with e1 _; rw [e1]
      · exact nomatch e
    · rcases keyIs_shape hb with ⟨j, u, rfl, e⟩ | ⟨y, u, rfl, e⟩
      · exact nomatch e
      · injection e with e1 _; rw [e1]
  byValue := fun k v h => by
    rcases keyIs_shape h with ⟨i, t, rfl, rfl⟩ | ⟨x, t, rfl, rfl⟩ <;> rfl
  pyHash := fun hv h => by
    rcases keyIs_shape hv with ⟨i, t, rfl, rfl⟩ | ⟨x, t, rfl, rfl⟩
    · exact wpAny_pyHash_int h
    · exact wpAny_pyHash_str h
  eqBool := fun hu hv h => by
    rcases keyIs_shape hu with ⟨i, t, rfl, rfl⟩ | ⟨x, t, rfl, rfl⟩
    · rcases keyIs_shape hv with ⟨j, u, rfl, rfl⟩ | ⟨y, u, rfl, rfl⟩
      · rw [key_ll] at h; exact wpAny_eqBool_int h
      · rw [key_lr] at h; exact SeqAt.EqAt.int_str i t y u _ _ _ _ h
    · rcases keyIs_shape hv with ⟨j, u, rfl, rfl⟩ | ⟨y, u, rfl, rfl⟩
      · rw [key_rl] at h; exact SeqAt.EqAt.str_int x t j u _ _ _ _ h
      · rw [key_rr] at h; exact wpAny_eqBool_str h
  «strs» := fun k x t v h => by
    rcases keyIs_shape h with ⟨i, u, rfl, e⟩ | ⟨y, u, rfl, e⟩
    · exact nomatch e
    · injection e with e1 _
      subst e1
      cases v <;> rfl

end L2

namespace L2
open PySem PySem.Spec PyProof.Rows

/-- a value, without the heap -/
inductive V where
  | non | bl (b : Bool) | int (i : Int) | str (x : Str) | byt (b : Array UInt8) | flt (b : UInt64) | ref (a : Addr) | ty (n : String)
  deriving DecidableEq

def RelV : V → Value → Prop
  | .non, u => u = Value.none
  | .bl b, u => u = Value.bool b
  | .int i, u => ∃ t, u = Value.int i t
  | .str x, u => ∃ t, u = Value.str x t
  | .byt b, u => ∃ t, u = Value.bytes b t
  | .flt b, u => ∃ t, u = Value.float b t
  | .ref a, u => u = Value.ref a
  | .ty n, u => u = Value.type n

abbrev Vals : List V → List Value → Prop := Paired RelV
theorem Vals.length {xs : List V} {us : List Value} (r : Vals xs us) : xs.length = us.length := Paired.length r
theorem Vals.get : ∀ {xs : List V} {us : List Value} {i : Nat} {x : V}, Vals xs us → xs[i]? = some x → ∃ u, us[i]? = some u ∧ RelV x u
  | _, _, _, _, .nil, e => by simp at e
  | _, _, 0, _, .cons r _, e => by simp at e; subst e; exact ⟨_, rfl, r⟩
  | _, _, i + 1, x, .cons _ t, e => by
    obtain ⟨u, h1, h2⟩ := Vals.get (i := i) (x := x) t (by simpa using e)
    exact ⟨u, by simpa using h1, h2⟩
theorem Vals.set {x : V} {u : Value} (r : RelV x u) : ∀ {xs : List V} {us : List Value} (i : Nat), Vals xs us → Vals (xs.set i x) (us.set i u)
  | _, _, _, .nil => .nil
  | _, _, 0, .cons _ t => .cons r t
  | _, _, i + 1, .cons q t => .cons q (Vals.set r i t)
theorem Vals.append : ∀ {xs ys : List V} {us ws : List Value}, Vals xs us → Vals ys ws → Vals (xs ++ ys) (us ++ ws)
  | _, _, _, _, .nil, s => s
  | _, _, _, _, .cons r t, s => .cons r (Vals.append t s)
theorem Vals.take : ∀ {xs : List V} {us : List Value} (n : Nat), Vals xs us → Vals (xs.take n) (us.take n)
  | _, _, 0, _ => .nil
  | _, _, _ + 1, .nil => .nil
  | _, _, n + 1, .cons r t => .cons r (Vals.take n t)
theorem Vals.drop : ∀ {xs : List V} {us : List Value} (n : Nat), Vals xs us → Vals (xs.drop n) (us.drop n)
  | _, _, 0, r => r
  | _, _, _ + 1, .nil => .nil
  | _, _, n + 1, .cons _ t => Vals.drop n t
theorem Vals.none_of : ∀ {xs : List V} {us : List Value} {i : Nat}, Vals xs us → xs[i]? = none → us[i]? = none := fun {xs us i} r e => by
  have h1 := r.length
  have h2 : xs.length ≤ i := List.getElem?_eq_none_iff.mp e
  exact List.getElem?_eq_none_iff.mpr (by omega)

def RelO : Option V → Option Value → Prop
  | some v, some u => RelV v u
  | none, none => True
  | _, _ => False
def KV {κ : Type} : List (κ × V) → List (κ × Value) → Prop := Paired fun (p : κ × V) (q : κ × Value) => p.1 = q.1 ∧ RelV p.2 q.2

/-- a key of a dict (00_mix): an int or a text -/
def kV : Key → V
  | .inl i => .int i
  | .inr x => .str x

/-- what stands at a tracked address -/
inductive HO where
  /-- a list -/
  | lst (xs : List V)
  /-- a tuple (never changes) -/
  | tup (xs : List V)
  /-- a dict whose keys are ints and texts; one whose keys are tuples of ints and texts (the empty one is both) -/
  | dK (kvs : List (Key × V)) | dT (kvs : List (List Key × V))
  /-- a set of ints: its members, its size -/
  | set (S : Int → Bool) (n : Nat)
  /-- an instance of the class at C, its dict at dx, its attributes -/
  | ins (C dx : Addr) (fs : List (Str × V))
  /-- the dict of the instance at x -/
  | own (x : Addr)
  /-- the dict of an exception -/
  | xd (fs : List (Str × V))
  /-- a bound method, f of x -/
  | met (f x : Addr)
  /-- a range object lo, lo + 1, .. below hi -/
  | rng (lo hi : Int)
  /-- a thing that is known to the object (the script; a dict while a loop walks it): read, never written while it is so -/
  | frz (o : Obj) (u : HO)
  /-- a code object's table -/
  | tbl (ps : Array Value)
  /-- any other thing, by what is true of its one object (a def of one's own: SetO a S n := HO.ext fun h => ..) -/
  | ext (φ : Heap → Prop)

abbrev Hp := Addr → Option HO
def upd (H : Hp) (a : Addr) (o : HO) : Hp := fun b => if b = a then some o else H b
theorem upd_same {H : Hp} {a : Addr} {o : HO} : upd H a o a = some o := by unfold upd; rw [if_pos rfl]
theorem upd_ne {H : Hp} {a b : Addr} {o : HO} (h : b ≠ a) : upd H a o b = H b := by unfold upd; rw [if_neg h]
/-- two objects of different content stand apart -/
theorem ne_of {H : Hp} {a b : Addr} {o u : HO} (h : H a = some o) (h' : H b = some u) (d : o ≠ u) : a ≠ b := by
  intro e; subst e; rw [h] at h'; exact d (Option.some.inj h')
theorem ne_of_none {H : Hp} {a b : Addr} {o : HO} (h : H a = some o) (h' : H b = none) : a ≠ b := by
  intro e; subst e; rw [h] at h'; cases h'

section
variable (P : Program) (w : World)
def ObjOk (H : Hp) (h : Heap) (a : Addr) : HO → Prop
  | .lst xs => xs.length ≤ sizeLine ∧ ∃ (its : List Value) (n : Nat), Vals xs its ∧ h.get? a = some { cls := .type "list", data := .seq its.toArray n }
  | .tup xs => xs.length ≤ sizeLine ∧ ∃ its : List Value, Vals xs its ∧ IsTup h a its.toArray
  | .dK kvs => kvs.length ≤ sizeLine ∧ (a == sysModules) = false ∧ ∃ vs, KV kvs vs ∧ h.DictOf (mixKind P w) a vs
  | .dT kvs => kvs.length ≤ sizeLine ∧ (a == sysModules) = false ∧ ∃ xs : List (List Key × Addr × Value),
      Paired (fun (p : List Key × V) (q : List Key × Addr × Value) => p.1 = q.1 ∧ H q.2.1 = some (.tup (p.1.map kV)) ∧ RelV p.2 q.2.2) kvs xs ∧
      ∃ o es ep, h.get? a = some o ∧ o.ExactDict ∧ o.data = .dict es ep ∧ es.toList = xs.map (entryOfKey (tupleKind (mixKind P w))) ∧ (xs.map (·.1)).Nodup
  | .set S n => h.SetOf (intKind P w) a S n
  | .ins C dx fs => H dx = some (.own a) ∧ fs.length ≤ 1000 ∧ dx ≠ a ∧ h.get? a = some (PySem.W.instObj C dx) ∧
      ∃ mA, h.Ns1 dx mA ∧ (∀ f, RelO (fs.lookup f) (mA f)) ∧ PySem.Within mA (fs.map (·.1))
  | .own _ => ∃ o, h.get? a = some o
  | .xd fs => ∃ mA, h.Ns1 a mA ∧ ∀ f, RelO (fs.lookup f) (mA f)
  | .rng lo hi => ∃ t u v, h.get? a = some { cls := .type "range", data := .fields #[.int lo t, .int hi u, .int 1 v] }
  | .frz o u => h.get? a = some o ∧ ObjOk H h a u
  | .tbl ps => h.get? a = some { cls := .none, data := .fields ps }
  | .met f x => h.get? a = some (PySem.W.methodObj (.ref f) (.ref x))
  | .ext φ => φ h ∧ (∃ o, h.get? a = some o) ∧ ∀ h1 h2 : Heap, φ h1 → (∀ o, h1.get? a = some o → h2.get? a = some o) → φ h2
/-- the abstract heap is held -/
def HOk (H : Hp) (h : Heap) : Prop := ∀ a o, H a = some o → ObjOk P w H h a o
end

section
variable {P : Program} {w : World} {H H' : Hp} {h h' : Heap} {a : Addr} {o : HO}
theorem ObjOk.lt (x : ObjOk P w H h a o) : a < h.objs.size := by
  cases o with
  | lst xs => obtain ⟨_, _, _, _, e⟩ := x; exact Heap.lt_size e
  | tup xs => obtain ⟨_, _, _, p⟩ := x; exact p.lt
  | dK kvs => obtain ⟨_, _, _, _, o, _, _, e, _⟩ := x; exact Heap.lt_size e
  | dT kvs => obtain ⟨_, _, _, _, o, _, _, e, _⟩ := x; exact Heap.lt_size e
  | set S n => obtain ⟨o, _, _, _, e, _⟩ := x; exact Heap.lt_size e
  | ins C dx fs => obtain ⟨_, _, _, e, _⟩ := x; exact Heap.lt_size e
  | own y => obtain ⟨_, e⟩ := x; exact Heap.lt_size e
  | xd fs => obtain ⟨_, ⟨_, _, _, e, _⟩, _⟩ := x; exact Heap.lt_size e
  | rng lo hi => obtain ⟨_, _, _, e⟩ := x; exact Heap.lt_size e
  | frz ob u => obtain ⟨e, _⟩ := x; exact Heap.lt_size e
  | tbl ps => exact Heap.lt_size (show h.get? a = some _ from x)
  | met f y => exact Heap.lt_size (show h.get? a = some _ from x)
  | ext φ => obtain ⟨_, ⟨_, e⟩, _⟩ := x; exact Heap.lt_size e
theorem Paired.mapP {α β : Type} {F G : α → β → Prop} : ∀ {l₁ : List α} {l₂ : List β}, Paired F l₁ l₂ → (∀ a b, F a b → G a b) → Paired G l₁ l₂
  | _, _, .nil, _ => .nil
  | _, _, .cons r t, f => .cons (f _ _ r) (Paired.mapP t f)
/-- what an object's description leans on: its own object, its own dict, the tuples -/
theorem ObjOk.stay (x : ObjOk P w H h a o) (k : ∀ b u, (b = a ∨ H b = some (.own a)) → h.get? b = some u → h'.get? b = some u)
    (ho : ∀ b, H b = some (.own a) → H' b = some (.own a)) (ht : ∀ b xs, H b = some (.tup xs) → H' b = some (.tup xs)) : ObjOk P w H' h' a o := by
  induction o with
  | lst xs => obtain ⟨z, its, n, r, e⟩ := x; exact ⟨z, its, n, r, k _ _ (.inl rfl) e⟩
  | tup xs => obtain ⟨z, its, r, ob, e, c⟩ := x; exact ⟨z, its, r, ob, k _ _ (.inl rfl) e, c⟩
  | dK kvs => obtain ⟨z, y, vs, r, ob, es, ep, e, c⟩ := x; exact ⟨z, y, vs, r, ob, es, ep, k _ _ (.inl rfl) e, c⟩
  | dT kvs =>
    obtain ⟨z, y, xs, r, ob, es, ep, e, c⟩ := x
    exact ⟨z, y, xs, Paired.mapP r fun p q z => ⟨z.1, ht _ _ z.2.1, z.2.2⟩, ob, es, ep, k _ _ (.inl rfl) e, c⟩
  | set S n => obtain ⟨ob, es, ep, t, e, c⟩ := x; exact ⟨ob, es, ep, t, k _ _ (.inl rfl) e, c⟩
  | ins C dx fs =>
    obtain ⟨d, z, ne, e, mA, ⟨od, es, ep, e2, c⟩, r⟩ := x
    exact ⟨ho _ d, z, ne, k _ _ (.inl rfl) e, mA, ⟨od, es, ep, k _ _ (.inr d) e2, c⟩, r⟩
  | own y => obtain ⟨ob, e⟩ := x; exact ⟨ob, k _ _ (.inl rfl) e⟩
  | xd fs => obtain ⟨mA, ⟨od, es, ep, e, c⟩, r⟩ := x; exact ⟨mA, ⟨od, es, ep, k _ _ (.inl rfl) e, c⟩, r⟩
  | rng lo hi => obtain ⟨t, u, v, e⟩ := x; exact ⟨t, u, v, k _ _ (.inl rfl) e⟩
  | frz ob u ih => obtain ⟨e, q⟩ := x; exact ⟨k _ _ (.inl rfl) e, ih q⟩
  | tbl ps =>
    have e : h.get? a = some { cls := .none, data := .fields ps } := x
    show h'.get? a = some { cls := .none, data := .fields ps }
    exact k a _ (.inl rfl) e
  | met f y =>
    have e : h.get? a = some (PySem.W.methodObj (.ref f) (.ref y)) := x
    show h'.get? a = some (PySem.W.methodObj (.ref f) (.ref y))
    exact k a _ (.inl rfl) e
  | ext φ => obtain ⟨p, ⟨o, e⟩, st⟩ := x; exact ⟨st _ _ p fun o q => k _ _ (.inl rfl) q, ⟨o, k _ _ (.inl rfl) e⟩, st⟩
theorem HOk.lt (x : HOk P w H h) (e : H a = some o) : a < h.objs.size := (x a o e).lt
theorem HOk.fresh (x : HOk P w H h) (e : h.objs.size ≤ a) : H a = none := by
  cases q : H a with
  | none => rfl
  | some u => exact absurd (Nat.lt_of_lt_of_le (x.lt q) e) (Nat.lt_irrefl _)
/-- every object of the heap is kept -/
theorem HOk.kept (x : HOk P w H h) (k : ∀ b u, h.get? b = some u → h'.get? b = some u) : HOk P w H h' := fun a o e =>
  (x a o e).stay (fun b u _ q => k b u q) (fun _ q => q) fun _ _ q => q
/-- a new object is laid and tracked -/
theorem HOk.laid (x : HOk P w H h) (k : ∀ b u, h.get? b = some u → h'.get? b = some u) (hp : h.objs.size ≤ a) (new : ObjOk P w (upd H a o) h' a o) : HOk P w (upd H a o) h' := fun b u e => by
  have hn := x.fresh hp
  by_cases hb : b = a
  · subst hb; rw [upd_same] at e; cases e; exact new
  · rw [upd_ne hb] at e
    exact (x b u e).stay (fun c v _ q => k c v q) (fun c q => by rw [upd_ne (ne_of_none q hn)]; exact q) fun c xs q => by rw [upd_ne (ne_of_none q hn)]; exact q
end

/-- what may be read as u: it is u, or a known u -/
def Rd (H : Hp) (a : Addr) (u : HO) : Prop := H a = some u ∨ ∃ o, H a = some (.frz o u)
theorem Rd.of {H : Hp} {a : Addr} {u : HO} (h : H a = some u) : Rd H a u := .inl h
theorem Rd.ok {P : Program} {w : World} {H : Hp} {h : Heap} {a : Addr} {u : HO} (r : Rd H a u) (x : HOk P w H h) : ObjOk P w H h a u := by
  rcases r with r | ⟨o, r⟩
  · exact x a u r
  · obtain ⟨_, q⟩ := x a _ r
    exact q
/-- what may be written -/
def Mut : Option HO → Prop
  | some (.lst _) => True
  | some (.dK _) => True
  | some (.dT _) => True
  | some (.set _ _) => True
  | some (.ins _ _ _) => True
  | some (.ext _) => True
  | _ => False
section
variable {P : Program} {w : World} {H : Hp} {h h' : Heap} {x e : Addr} {o' : HO}
/-- the object at e is changed: x itself, or the dict of the instance x -/
theorem HOk.write (ok : HOk P w H h) (mu : Mut (H x)) (he : e = x ∨ H e = some (.own x)) (k : ∀ b u, b ≠ e → h.get? b = some u → h'.get? b = some u) (heo : ∃ u, h'.get? e = some u)
    (new : ObjOk P w (upd H x o') h' x o') : HOk P w (upd H x o') h' := fun b u q => by
  have nown : ∀ c y, H c = some (.own y) → c ≠ x := fun c y r z => by subst z; rw [r] at mu; exact mu
  have ntup : ∀ c xs, H c = some (.tup xs) → c ≠ x := fun c xs r z => by subst z; rw [r] at mu; exact mu
  by_cases hb : b = x
  · subst hb; rw [upd_same] at q; cases q; exact new
  · rw [upd_ne hb] at q
    by_cases hbe : b = e
    · have q' : H b = some (.own x) := by
        rcases he with z | z
        · exact absurd (hbe.trans z) hb
        · rw [hbe]; exact z
      rw [q] at q'; cases q'
      obtain ⟨v, hv⟩ := heo
      exact ⟨v, by rw [hbe]; exact hv⟩
    · refine (ok b u q).stay (fun c v hc r => k c v ?_ r) (fun c r => by rw [upd_ne (nown c b r)]; exact r) fun c xs r => by rw [upd_ne (ntup c xs r)]; exact r
      rcases hc with rfl | hc
      · exact hbe
      · rintro rfl
        rcases he with z | z
        · exact nown c b hc z
        · rw [hc] at z; cases z; exact hb rfl
end

/-! ### kept unless tracked; of the frames at fs (the callers') the slots may change (an exception that passes writes there); of the records at ex (iterators) nothing is said -/
structure Un (fs ex : List Addr) (H H' : Hp) (h h' : Heap) : Prop where
  keep : ∀ b o, h.get? b = some o → H b = none → b ∉ fs → b ∉ ex → h'.get? b = some o
  slot : ∀ b o, h.get? b = some o → H b = none → b ∈ fs → b ∉ ex → ∃ sl, h'.get? b = some { o with slots := sl }
  free : ∀ b o, h.get? b = some o → H b = none → b ∉ ex → H' b = none
  there : ∀ b o, h.get? b = some o → b ∉ ex → ∃ o', h'.get? b = some o'
  tups : ∀ b xs, H b = some (.tup xs) → H' b = some (.tup xs)
  frzs : ∀ b o u, H b = some (.frz o u) → H' b = some (.frz o u)
  tbls : ∀ b ps, H b = some (.tbl ps) → ∃ more, H' b = some (.tbl (ps ++ more))
section
variable {fs fs' ex ex' : List Addr} {H H1 H2 : Hp} {h h1 h2 h' : Heap} {a x e : Addr} {o : HO}
theorem Un.any (u : Un fs ex H H1 h h1) {b : Addr} {ob : Obj} (q : h.get? b = some ob) (n : H b = none) (hx : b ∉ ex) : ∃ sl, h1.get? b = some { ob with slots := sl } := by
  by_cases hb : b ∈ fs
  · exact u.slot b ob q n hb hx
  · exact ⟨ob.slots, u.keep b ob q n hb hx⟩
theorem Un.trans (a : Un fs ex H H1 h h1) (b : Un fs ex H1 H2 h1 h2) : Un fs ex H H2 h h2 where
  keep := fun c ob q n hc hx => b.keep c ob (a.keep c ob q n hc hx) (a.free c ob q n hx) hc hx
  slot := fun c ob q n hc hx => by
    obtain ⟨sl, e1⟩ := a.slot c ob q n hc hx
    obtain ⟨sl', e2⟩ := b.slot c _ e1 (a.free c ob q n hx) hc hx
    exact ⟨sl', e2⟩
  free := fun c ob q n hx => by
    obtain ⟨o', e1⟩ := a.there c ob q hx
    exact b.free c o' e1 (a.free c ob q n hx) hx
  there := fun c ob q hx => by
    obtain ⟨o', e1⟩ := a.there c ob q hx
    exact b.there c o' e1 hx
  tups := fun c xs q => b.tups c xs (a.tups c xs q)
  frzs := fun c ob xs q => b.frzs c ob xs (a.frzs c ob xs q)
  tbls := fun c ps q => by
    obtain ⟨m1, e1⟩ := a.tbls c ps q
    obtain ⟨m2, e2⟩ := b.tbls c _ e1
    exact ⟨m1 ++ m2, by rw [e2, Array.append_assoc]⟩
theorem Un.kept (k : ∀ b u, h.get? b = some u → h'.get? b = some u) : Un fs ex H H h h' :=
  ⟨fun b ob q _ _ _ => k b ob q, fun b ob q _ _ _ => ⟨ob.slots, k b ob q⟩, fun _ _ _ n _ => n, fun b ob q _ => ⟨ob, k b ob q⟩, fun _ _ q => q, fun _ _ _ q => q, fun _ ps q => ⟨#[], by rw [q]; simp⟩⟩
theorem Un.refl : Un fs ex H H h h := Un.kept fun _ _ q => q
theorem Un.laid (k : ∀ b u, h.get? b = some u → h'.get? b = some u) (hp : h.objs.size ≤ a) (hn : H a = none) : Un fs ex H (upd H a o) h h' where
  keep := fun b u q _ _ _ => k b u q
  slot := fun b u q _ _ _ => ⟨u.slots, k b u q⟩
  free := fun b u q n _ => by rw [upd_ne (Nat.ne_of_lt (Nat.lt_of_lt_of_le (Heap.lt_size q) hp))]; exact n
  there := fun b u q _ => ⟨u, k b u q⟩
  tups := fun b xs q => by rw [upd_ne (ne_of_none q hn)]; exact q
  frzs := fun b u xs q => by rw [upd_ne (ne_of_none q hn)]; exact q
  tbls := fun b ps q => ⟨#[], by rw [upd_ne (ne_of_none q hn), q]; simp⟩
theorem Un.write (mu : Mut (H x)) (he : e = x ∨ H e = some (.own x)) (k : ∀ b u, b ≠ e → h.get? b = some u → h'.get? b = some u) (heo : ∃ u, h'.get? e = some u) : Un fs ex H (upd H x o) h h' := by
  have hx : ∀ b, H b = none → b ≠ x := fun b n z => by subst z; rw [n] at mu; exact mu
  have hb : ∀ b, H b = none → b ≠ e := fun b n z => by
    subst z
    rcases he with r | r
    · exact hx b n r
    · rw [n] at r; cases r
  have hm : ∀ b u, H b = some u → ¬ Mut (some u) → b ≠ x := fun b u q nm z => by subst z; rw [q] at mu; exact nm mu
  refine ⟨fun b u q n _ _ => k b u (hb b n) q, fun b u q n _ _ => ⟨u.slots, k b u (hb b n) q⟩, fun b u q n _ => by rw [upd_ne (hx b n)]; exact n, fun b u q _ => ?_,
    fun b xs q => by rw [upd_ne (hm b _ q fun z => z)]; exact q, fun b u xs q => by rw [upd_ne (hm b _ q fun z => z)]; exact q, fun b ps q => ⟨#[], by rw [upd_ne (hm b _ q fun z => z), q]; simp⟩⟩
  by_cases hbe : b = e
  · subst hbe; exact heo
  · exact ⟨u, k b u hbe q⟩
theorem Un.mono (u : Un fs ex H H1 h h1) (hs : ∀ b ∈ fs, b ∈ fs') (hx : ∀ b ∈ ex, b ∈ ex') : Un fs' ex' H H1 h h1 :=
  ⟨fun b ob q n hb he => u.keep b ob q n (fun z => hb (hs b z)) fun z => he (hx b z), fun _ _ q n _ he => u.any q n fun z => he (hx _ z), fun b ob q n he => u.free b ob q n fun z => he (hx b z), fun b ob q he => u.there b ob q fun z => he (hx b z), u.tups, u.frzs, u.tbls⟩
end

/-! ### the heap without what is tracked -/
def trk (h : Heap) (H : Hp) : List Addr := (List.range h.objs.size).filter fun a => (H a).isSome
def hidT (h : Heap) (H : Hp) : Heap := PySem.W.hideAll h (trk h H)
theorem hidT_size (h : Heap) (H : Hp) : (hidT h H).objs.size = h.objs.size := PySem.W.hideAll_size _ _
theorem hidT_get {h : Heap} {H : Hp} {b : Addr} {o : Obj} (e : h.get? b = some o) (n : H b = none) : (hidT h H).get? b = some o :=
  PySem.W.hideAll_get _ e fun hm => by
    have q : (H b).isSome = true := (List.mem_filter.mp hm).2
    rw [n] at q; simp at q
theorem of_hidT {h : Heap} {H : Hp} {b : Addr} {o : Obj} (e : (hidT h H).get? b = some o) : h.get? b = some o ∧ H b = none := by
  have e' : h.get? b = some o := PySem.W.of_hideAll (trk h H) e
  refine ⟨e', ?_⟩
  cases q : H b with
  | none => rfl
  | some x =>
    have hm : b ∈ trk h H := List.mem_filter.mpr ⟨List.mem_range.mpr (Heap.lt_size e'), by simp [q]⟩
    have z : (hidT h H).get? b = none := PySem.W.hideAll_none (trk h H) hm
    rw [z] at e; cases e

/-! ### OpenK's ledger, filled with every new object but one -/
def allNews (g h : Heap) (L : Addr) : List (Addr × Obj) := (List.range h.objs.size).filterMap fun a => if a = L ∨ (g.get? a).isSome = true then none else (h.get? a).map fun o => (a, o)
def rest (g h : Heap) (L d : Addr) : List (Addr × Obj) := (allNews g h L).filter fun p => decide (p.1 ≠ d)
end L2

namespace L2
open PySem PySem.Spec PyProof.Rows

/-- the module's facts, over the base: the heap at the law's entry without what is tracked there -/
structure Mod (K : PySem.W.Frag) (mg : Str → Option Value) (base : Heap) : Prop where
  kin : K.In base
  glob : base.Ns mainGlobals mg
  blt : ∃ mb, base.Ns builtinsNs mb ∧ ∀ x : Str, x ≠ "__name__" → mb x = bootBuiltins x
  nolimit : base.NoLimit

/-- the context: a def's body (or a comprehension's block) running. base: fixed through the whole law; s₀, H₀: the entry; outer: the frames whose slots others may change (a def's callers); stack: all frames that run;
   ex: iterators that were made ahead of the entry and are walked here (a comprehension's); fn: the names whose cells were made at the entry (a def: all; a comprehension's block: its own); calm: not within an except suite; pn: pins that every state bears; xe: what is wanted of an exception that leaves the code -/
structure Cx where
  prog : Program
  w : World
  K : PySem.W.Frag
  mg : Str → Option Value
  base : Heap
  A : Around
  N : List Str
  s_0 : Shared
  H_0 : Hp
  env : Env
  outer : List Env
  stack : List Env
  ex : List Addr
  fn : Str → Bool
  calm : Bool
  pn : List (Addr × Obj)
  xe : Value → Shared → Prop
/-- the callers' frames -/
def frs (l : List Env) : List Addr := l.filterMap (·.frame)
abbrev Cx.fs (X : Cx) : List Addr := frs X.outer

def Vis (sc : Scope) (x : Str) : Prop := sc.names.lookup x = some .local ∨ sc.names.lookup x = some .cell ∨ sc.names.lookup x = some .free
def Loc (sc : Scope) (x : Str) : Prop := sc.names.lookup x = some .local ∨ sc.names.lookup x = some .cell
def Look (env : Env) (h : Heap) (m : Str → Option Value) (x : Str) (u : Value) : Prop :=
  (env.kindOf x = some .local ∧ m x = some u) ∨ ((env.kindOf x = some .cell ∨ env.kindOf x = some .free) ∧ ∃ c, env.cells.lookup x = some c ∧ h.IsCell c (some u))

structure Cx.Ok (X : Cx) : Prop where
  mod : Mod X.K X.mg X.base
  kind : X.env.scope.kind = .function
  glob : X.env.globals = mainGlobals
  blt : X.env.builtins = builtinsNs
  above : X.s_0.heap.objs.size ≤ X.env.locals
  inj : ∀ x y c, X.env.cells.lookup x = some c → X.env.cells.lookup y = some c → x = y
  has : ∀ x, (X.env.kindOf x = some .cell ∨ X.env.kindOf x = some .free) → ∃ c, X.env.cells.lookup x = some c
  cab : ∀ x c, X.fn x = true → X.env.cells.lookup x = some c → X.s_0.heap.objs.size ≤ c
  hd : X.calm = true → X.A.handled = none
  frames : X.A.frames = some X.stack
  stk : X.stack = X.outer ∨ (X.stack = X.env :: X.outer ∧ X.env.frame = some X.env.locals)
  exf : ∀ b ∈ X.ex, b ≠ X.env.locals ∧ ∀ x c, X.env.cells.lookup x = some c → c ≠ b
  bs : ∀ b o, X.base.get? b = some o → X.s_0.heap.get? b = some o ∧ X.H_0 b = none
  bsz : X.base.objs.size ≤ X.s_0.heap.objs.size
  noex : ∀ b o, X.base.get? b = some o → b ∉ X.ex
  exfs : ∀ b ∈ X.ex, b ∉ X.fs
  funs : X.s_0.heap.FunFrames X.base X.outer
  frf : ∀ b ∈ X.fs, X.H_0 b = none

structure Inv (X : Cx) (pins : List (Addr × Obj)) (σ : List (Option V)) (H : Hp) (s : Shared) : Prop where
  ok : X.Ok
  os : s.os = X.s_0.os
  bare : AllBare s.gens
  base : Un X.fs X.ex X.H_0 H X.s_0.heap s.heap
  loc : ∃ m, s.heap.Ns X.env.locals m ∧ ∀ (i : Nat) (x : Str) (v : V), X.N[i]? = some x → σ[i]? = some (some v) → Vis X.env.scope x → ∃ u, RelV v u ∧ Look X.env s.heap m x u
  cell : ∀ x c, X.env.cells.lookup x = some c → ∃ v, s.heap.IsCell c v
  free : H X.env.locals = none
  freeC : ∀ x c, X.env.cells.lookup x = some c → H c = none
  pin : ∀ p ∈ X.pn ++ pins, s.heap.get? p.1 = some p.2 ∧ H p.1 = none ∧ p.1 ≠ X.env.locals ∧ p.1 ∉ X.fs ∧ ∀ v, p.2.data ≠ .cell v
  hok : HOk X.prog X.w H s.heap
  len : σ.length = X.N.length

section
variable {X : Cx} {pins : List (Addr × Obj)} {σ : List (Option V)} {H H' : Hp} {s : Shared} {h' : Heap}

theorem Cx.Ok.nofr (ok : X.Ok) {b : Addr} {o : Obj} (e : X.base.get? b = some o) : b ∉ X.fs := fun hb => by
  have := (ok.funs.mem hb).1
  rw [e] at this; cases this
theorem Inv.bs (I : Inv X pins σ H s) : ∀ b o, X.base.get? b = some o → s.heap.get? b = some o ∧ H b = none := fun b o e =>
  ⟨I.base.keep b o (I.ok.bs b o e).1 (I.ok.bs b o e).2 (I.ok.nofr e) (I.ok.noex b o e), I.base.free b o (I.ok.bs b o e).1 (I.ok.bs b o e).2 (I.ok.noex b o e)⟩
theorem Inv.bk (I : Inv X pins σ H s) : ∀ b o, X.base.get? b = some o → s.heap.get? b = some o := fun b o e => (I.bs b o e).1
theorem Inv.mod (I : Inv X pins σ H s) : Mod X.K X.mg X.base := I.ok.mod
theorem Inv.kIn (I : Inv X pins σ H s) : X.K.In s.heap := I.ok.mod.kin.keeps I.bk
theorem Inv.nolimit (I : Inv X pins σ H s) : s.heap.NoLimit := I.ok.mod.nolimit.keeps I.bk
/-- the frame over the base: for OpenK's rules (K.In X.base is I.mod.kin) -/
theorem Inv.fr (I : Inv X pins σ H s) : ∃ m, Fr X.base X.env.locals s.heap m :=
  let ⟨m, hn, _⟩ := I.loc
  ⟨m, hn, I.bk, Nat.le_trans I.ok.bsz I.ok.above⟩
theorem Inv.lt (I : Inv X pins σ H s) : X.env.locals < s.heap.objs.size := let ⟨_, hn, _⟩ := I.loc; hn.lt
theorem Inv.sz (I : Inv X pins σ H s) : X.s_0.heap.objs.size ≤ s.heap.objs.size := Nat.le_trans I.ok.above (Nat.le_of_lt I.lt)
theorem Inv.nofs (I : Inv X pins σ H s) {a : Addr} (h : s.heap.objs.size ≤ a) : a ∉ X.fs := fun hb => by
  obtain ⟨_, o, ho, _⟩ := I.ok.funs.mem hb
  exact absurd (Nat.lt_of_lt_of_le (Heap.lt_size ho) (Nat.le_trans I.sz h)) (Nat.lt_irrefl _)
theorem Inv.cne (I : Inv X pins σ H s) : ∀ x c, X.env.cells.lookup x = some c → c ≠ X.env.locals := fun x c e z => by
  obtain ⟨v, o, ho, hd⟩ := I.cell x c e
  obtain ⟨m, ⟨o', es, ep, ho', hd', _⟩, _⟩ := I.loc
  rw [z, ho'] at ho; cases ho; rw [hd'] at hd; cases hd
theorem Inv.funs (I : Inv X pins σ H s) : s.heap.FunFrames X.base X.outer := by
  have all : ∀ (l : List Env), (∀ b ∈ frs l, b ∈ X.fs) → X.s_0.heap.FunFrames X.base l → s.heap.FunFrames X.base l := by
    intro l
    induction l with
    | nil => intro _ _; trivial
    | cons env r ih =>
      intro hs hl
      obtain ⟨hk, ⟨L, o, hf, hn, ho, hd⟩, hr⟩ := hl
      have hL : L ∈ X.fs := hs L (by unfold frs; rw [List.filterMap_cons, hf]; exact List.mem_cons_self)
      obtain ⟨sl, e⟩ := I.base.slot L o ho (I.ok.frf L hL) hL fun z => I.ok.exfs L z hL
      exact ⟨hk, ⟨L, _, hf, hn, e, hd⟩, ih (fun b hb => hs b (by unfold frs; rw [List.filterMap_cons, hf]; exact List.mem_cons_of_mem _ hb)) hr⟩
  exact all X.outer (fun _ hb => hb) I.ok.funs

/-- the frames that run, for a call -/
theorem Inv.stack (I : Inv X pins σ H s) : s.heap.FunFrames X.base X.stack := by
  rcases I.ok.stk with e | ⟨e, hf⟩
  · rw [e]; exact I.funs
  · rw [e]
    obtain ⟨m, hn, _⟩ := I.loc
    refine .cons (by rw [I.ok.kind]; decide) hf hn ?_ I.funs
    exact Heap.get?_none_of_le (Nat.le_trans I.ok.bsz I.ok.above)
theorem Inv.stkSub (I : Inv X pins σ H s) : ∀ b ∈ frs X.stack, b ∈ X.env.locals :: X.fs := fun b hb => by
  rcases I.ok.stk with e | ⟨e, hf⟩
  · rw [e] at hb; exact List.mem_cons_of_mem _ hb
  · rw [e] at hb
    unfold frs at hb
    rw [List.filterMap_cons, hf] at hb
    exact hb
theorem Inv.stkFree (I : Inv X pins σ H s) : ∀ b ∈ frs X.stack, H b = none := fun b hb => by
  rcases List.mem_cons.mp (I.stkSub b hb) with e | hb
  · rw [e]; exact I.free
  · obtain ⟨_, o, ho, _⟩ := I.ok.funs.mem hb
    exact I.base.free b o ho (I.ok.frf b hb) fun z => I.ok.exfs b z hb

/-- THE STEP: the untracked objects but the frame and the records at ch are kept (the callers' frames up to slots), the frame's map is kept, the new abstract heap is held -/
theorem Inv.step {g' : Array GenState} {t' : Nat} {d' : Drawn} {ch : List Addr} (I : Inv X pins σ H s)
    (hch : ∀ b ∈ ch, (b ∈ X.ex ∨ X.s_0.heap.objs.size ≤ b) ∧ b ≠ X.env.locals ∧ (∀ x c, X.env.cells.lookup x = some c → c ≠ b) ∧ ∀ p ∈ X.pn ++ pins, p.1 ≠ b)
    (keep : ∀ b o, b ≠ X.env.locals → b ∉ X.fs → b ∉ ch → s.heap.get? b = some o → H b = none → h'.get? b = some o)
    (slot : ∀ b o, b ≠ X.env.locals → b ∈ X.fs → b ∉ ch → s.heap.get? b = some o → H b = none → ∃ sl, h'.get? b = some { o with slots := sl }) (free : ∀ b o, b ∉ ch → s.heap.get? b = some o → H b = none → H' b = none)
    (there : ∀ b o, b ∉ ch → s.heap.get? b = some o → ∃ o', h'.get? b = some o')
    (tups : ∀ b xs, H b = some (.tup xs) → H' b = some (.tup xs)) (frzs : ∀ b o u, H b = some (.frz o u) → H' b = some (.frz o u)) (tbls : ∀ b ps, H b = some (.tbl ps) → ∃ more, H' b = some (.tbl (ps ++ more)))
    (ns : ∀ m, s.heap.Ns X.env.locals m → h'.Ns X.env.locals m) (hok : HOk X.prog X.w H' h') (hg : AllBare g') :
    Inv X pins σ H' { s with heap := h', gens := g', drawn := d', toks := t' } := by
  have neL : ∀ b o, X.s_0.heap.get? b = some o → b ≠ X.env.locals := fun b o e => Nat.ne_of_lt (Nat.lt_of_lt_of_le (Heap.lt_size e) I.ok.above)
  have neC : ∀ b o, X.s_0.heap.get? b = some o → b ∉ X.ex → b ∉ ch := fun b o e hx hb => by
    rcases (hch b hb).1 with z | z
    · exact hx z
    · exact absurd (Nat.lt_of_lt_of_le (Heap.lt_size e) z) (Nat.lt_irrefl _)
  have cellK : ∀ x c, X.env.cells.lookup x = some c → ∀ v, s.heap.IsCell c v → h'.IsCell c v := fun x c e v ⟨o, ho, hd⟩ => by
    have nch : c ∉ ch := fun z => (hch c z).2.2.1 x c e rfl
    by_cases hc : c ∈ X.fs
    · obtain ⟨sl, q⟩ := slot c o (I.cne x c e) hc nch ho (I.freeC x c e)
      exact ⟨_, q, hd⟩
    · exact ⟨o, keep c o (I.cne x c e) hc nch ho (I.freeC x c e), hd⟩
  refine ⟨I.ok, I.os, hg, ⟨fun b o e n hb hx => ?_, fun b o e n hb hx => ?_, fun b o e n hx => ?_, fun b o e hx => ?_, fun b xs e => tups b xs (I.base.tups b xs e), fun b o xs e => frzs b o xs (I.base.frzs b o xs e), fun b ps e => ?_⟩, ?_, fun x c e => ?_, ?_, fun x c e => ?_, fun p hp => ?_, hok, I.len⟩
  · exact keep b o (neL b o e) hb (neC b o e hx) (I.base.keep b o e n hb hx) (I.base.free b o e n hx)
  · obtain ⟨sl, e1⟩ := I.base.slot b o e n hb hx
    obtain ⟨sl', e2⟩ := slot b _ (neL b o e) hb (neC b o e hx) e1 (I.base.free b o e n hx)
    exact ⟨sl', e2⟩
  · obtain ⟨o', e1⟩ := I.base.there b o e hx
    exact free b o' (neC b o e hx) e1 (I.base.free b o e n hx)
  · obtain ⟨o', e1⟩ := I.base.there b o e hx
    exact there b o' (neC b o e hx) e1
  · obtain ⟨m1, e1⟩ := I.base.tbls b ps e
    obtain ⟨m2, e2⟩ := tbls b _ e1
    exact ⟨m1 ++ m2, by rw [e2, Array.append_assoc]⟩
  · obtain ⟨m, hn, hl⟩ := I.loc
    refine ⟨m, ns m hn, fun i x v e1 e2 e3 => ?_⟩
    obtain ⟨u, r, l⟩ := hl i x v e1 e2 e3
    refine ⟨u, r, ?_⟩
    rcases l with l | ⟨k, c, e, z⟩
    · exact .inl l
    · exact .inr ⟨k, c, e, cellK x c e _ z⟩
  · obtain ⟨v, z⟩ := I.cell x c e
    exact ⟨v, cellK x c e v z⟩
  · obtain ⟨m, ⟨o, _, _, ho, _⟩, _⟩ := I.loc
    exact free _ o (fun z => (hch _ z).2.1 rfl) ho I.free
  · obtain ⟨v, o, ho, hd⟩ := I.cell x c e
    exact free c o (fun z => (hch c z).2.2.1 x c e rfl) ho (I.freeC x c e)
  · obtain ⟨e, n, ne, nf, d⟩ := I.pin p hp
    have nch : p.1 ∉ ch := fun z => (hch p.1 z).2.2.2 p hp rfl
    exact ⟨keep p.1 p.2 ne nf nch e n, free p.1 p.2 nch e n, ne, nf, d⟩
/-- .. where the frame's own object is kept too -/
theorem Inv.un {t' : Nat} (I : Inv X pins σ H s) (u : Un X.fs [] H H' s.heap h') (hok : HOk X.prog X.w H' h') : Inv X pins σ H' { s with heap := h', toks := t' } := by
  obtain ⟨m, ⟨o, es, ep, ho, r⟩, _⟩ := id I.loc
  obtain ⟨sl, hL⟩ := u.any ho I.free (by simp)
  exact I.step (g' := s.gens) (d' := s.drawn) (ch := []) (fun _ z => nomatch z) (fun b o _ hb _ e n => u.keep b o e n hb (by simp)) (fun b o _ hb _ e n => u.slot b o e n hb (by simp)) (fun b o _ e n => u.free b o e n (by simp)) (fun b o _ e => u.there b o e (by simp)) u.tups u.frzs u.tbls (fun m' hm => by
    obtain ⟨o', es', ep', ho', r'⟩ := hm
    rw [ho] at ho'; cases ho'
    exact ⟨_, es', ep', hL, r'⟩) hok I.bare
/-- behind a call (or a comprehension's block): the slots of this frame may have changed too, the records at ch may have turned -/
theorem Inv.call {g' : Array GenState} {t' : Nat} {d' : Drawn} {ch : List Addr} (I : Inv X pins σ H s) (u : Un (frs X.stack) ch H H' s.heap h') (hok : HOk X.prog X.w H' h') (hg : AllBare g')
    (hch : ∀ b ∈ ch, (b ∈ X.ex ∨ X.s_0.heap.objs.size ≤ b) ∧ b ≠ X.env.locals ∧ (∀ x c, X.env.cells.lookup x = some c → c ≠ b) ∧ ∀ p ∈ X.pn ++ pins, p.1 ≠ b) :
    Inv X pins σ H' { s with heap := h', gens := g', drawn := d', toks := t' } := by
  obtain ⟨m, ⟨o, es, ep, ho, r⟩, _⟩ := id I.loc
  obtain ⟨sl, hL⟩ := u.any ho I.free fun z => (hch _ z).2.1 rfl
  exact I.step (ch := ch) hch (fun b o hL hb hc e n => u.keep b o e n (fun z => (List.mem_cons.mp (I.stkSub b z)).elim hL hb) hc) (fun b o _ _ hc e n => u.any e n hc) (fun b o hc e n => u.free b o e n hc) (fun b o hc e => u.there b o e hc) u.tups u.frzs u.tbls (fun m' hm => by
    obtain ⟨o', es', ep', ho', r'⟩ := hm
    rw [ho] at ho'; cases ho'
    exact ⟨_, es', ep', hL, r'⟩) hok hg
/-- an untracked record of ours (an iterator) has turned -/
theorem Inv.turned {t' : Nat} {it : Addr} (I : Inv X pins σ H s) (k : ∀ b o, b ≠ it → s.heap.get? b = some o → h'.get? b = some o) (hn : H it = none) (hL : it ≠ X.env.locals)
    (h1 : it ∈ X.ex ∨ X.s_0.heap.objs.size ≤ it) (h2 : ∀ x c, X.env.cells.lookup x = some c → c ≠ it) (h3 : ∀ p ∈ X.pn ++ pins, p.1 ≠ it) : Inv X pins σ H { s with heap := h', toks := t' } := by
  have nit : ∀ b u, H b = some u → b ≠ it := fun b u e z => by rw [z, hn] at e; cases e
  refine I.step (g' := s.gens) (d' := s.drawn) (ch := [it]) (fun b hb => ?_) (fun b o _ _ hc e _ => k b o (fun z => hc (by simp [z])) e) (fun b o _ _ hc e _ => ⟨o.slots, k b o (fun z => hc (by simp [z])) e⟩) (fun _ _ _ _ n => n)
    (fun b o hc e => ⟨o, k b o (fun z => hc (by simp [z])) e⟩) (fun _ _ e => e) (fun _ _ _ e => e) (fun b ps e => ⟨#[], by rw [e]; simp⟩) (fun m hm => ?_) (fun b u e => ?_) I.bare
  · have e : b = it := by simpa using hb
    subst e
    exact ⟨h1, hL, h2, h3⟩
  · obtain ⟨o, es, ep, ho, r⟩ := hm
    exact ⟨o, es, ep, k _ o (Ne.symm hL) ho, r⟩
  · refine (I.hok b u e).stay (fun c v hc q => k c v ?_ q) (fun _ q => q) fun _ _ q => q
    rcases hc with z | z
    · rw [z]; exact nit b u e
    · exact nit c _ z
theorem Inv.tok (I : Inv X pins σ H s) (t : Nat) : Inv X pins σ H { s with toks := t } := I.un (h' := s.heap) (t' := t) Un.refl I.hok
/-- all objects kept -/
theorem Inv.kept {t' : Nat} (I : Inv X pins σ H s) (k : ∀ b u, s.heap.get? b = some u → h'.get? b = some u) : Inv X pins σ H { s with heap := h', toks := t' } := I.un (Un.kept k) (I.hok.kept k)
/-- a new object laid and tracked -/
theorem Inv.laid {a : Addr} {o : HO} {t' : Nat} (I : Inv X pins σ H s) (k : ∀ b u, s.heap.get? b = some u → h'.get? b = some u) (hp : s.heap.objs.size ≤ a) (new : ObjOk X.prog X.w (upd H a o) h' a o) :
    Inv X pins σ (upd H a o) { s with heap := h', toks := t' } := I.un (Un.laid k hp (I.hok.fresh hp)) (I.hok.laid k hp new)
/-- an object written -/
theorem Inv.write {x e : Addr} {o : HO} {t' : Nat} (I : Inv X pins σ H s) (mu : Mut (H x)) (he : e = x ∨ H e = some (.own x)) (k : ∀ b u, b ≠ e → s.heap.get? b = some u → h'.get? b = some u) (heo : ∃ u, h'.get? e = some u)
    (new : ObjOk X.prog X.w (upd H x o) h' x o) : Inv X pins σ (upd H x o) { s with heap := h', toks := t' } := I.un (Un.write mu he k heo) (I.hok.write mu he k heo new)
/-- forgetting slots, pins -/
theorem Inv.weak {σ' : List (Option V)} (I : Inv X pins σ H s) (hl : σ'.length = σ.length) (w : ∀ (i : Nat) v, σ'[i]? = some (some v) → σ[i]? = some (some v)) : Inv X pins σ' H s :=
  ⟨I.ok, I.os, I.bare, I.base, let ⟨m, hn, hl'⟩ := I.loc; ⟨m, hn, fun i x v e1 e2 e3 => hl' i x v e1 (w i v e2) e3⟩, I.cell, I.free, I.freeC, I.pin, I.hok, hl.trans I.len⟩
theorem Inv.pins_of {pins' : List (Addr × Obj)} (I : Inv X pins σ H s) (h : ∀ p ∈ pins', s.heap.get? p.1 = some p.2 ∧ H p.1 = none ∧ p.1 ≠ X.env.locals ∧ p.1 ∉ X.fs ∧ ∀ v, p.2.data ≠ .cell v) : Inv X pins' σ H s :=
  ⟨I.ok, I.os, I.bare, I.base, I.loc, I.cell, I.free, I.freeC, fun p hp => (List.mem_append.mp hp).elim (fun z => I.pin p (List.mem_append_left _ z)) (h p), I.hok, I.len⟩

theorem nodup_ix {N : List Str} (hN : N.Nodup) {i j : Nat} {x : Str} (a : N[i]? = some x) (b : N[j]? = some x) : i = j := by
  obtain ⟨h1, e1⟩ := List.getElem?_eq_some_iff.mp a
  obtain ⟨h2, e2⟩ := List.getElem?_eq_some_iff.mp b
  exact (List.getElem_inj hN).mp (e1.trans e2.symm)

/-- a name is stored; what changed -/
theorem store_ok2 {M : Model} {A : Around} {E : Value → Shared → Prop} {i : Nat} {x : Str} {v : V} {u : Value} {Q : Unit → Shared → Prop} (I : Inv X pins σ H s) (hN : X.N.Nodup) (hi : X.N[i]? = some x) (hx : Loc X.env.scope x) (r : RelV v u)
    (h : ∀ s', Inv X pins (σ.set i (some v)) H s' → (∃ a, Heap.SameBut a s.heap s'.heap ∧ (a = X.env.locals ∨ X.env.cells.lookup x = some a)) → Q () s') (hf : X.fn x = true ∨ X.env.scope.names.lookup x = some .local := by first | exact .inl rfl | exact .inr rfl | assumption) : wpAny M A (storeName X.env x u) Q E s := by
  obtain ⟨m, hn, hl⟩ := id I.loc
  have hcls : (X.env.scope.kind == .class || (X.env.scope.kind == .module && X.env.locals != X.env.globals)) = false := by rw [I.ok.kind]; rfl
  have hiσ : i < σ.length := by rw [I.len]; exact (List.getElem?_eq_some_iff.mp hi).1
  have cne := I.cne
  have tracked : ∀ {a : Addr} {h' : Heap}, (∃ o, s.heap.get? a = some o ∧ H a = none) → Heap.SameBut a s.heap h' → HOk X.prog X.w H h' := fun {a h'} ha hs b ob e => by
    obtain ⟨_, _, hfree⟩ := ha
    refine (I.hok b ob e).stay (fun c w' hc q => (hs.2 c ?_).trans q) (fun _ q => q) fun _ _ q => q
    rintro rfl
    rcases hc with rfl | hc
    · rw [hfree] at e; cases e
    · rw [hfree] at hc; cases hc
  rcases hx with hk | hk
  · refine wpAny_storeName_local hk hn (fun h' hn' hs => ?_) hcls
    obtain ⟨oL, _, _, hoL, _⟩ := id hn
    refine h _ ⟨I.ok, I.os, I.bare, ⟨fun b o e n hb hx => ?_, fun b o e n hb hx => ?_, I.base.free, fun b o e hx => ?_, I.base.tups, I.base.frzs, I.base.tbls⟩, ⟨_, hn', fun j y v' e1 e2 e3 => ?_⟩, fun y c e => ?_, I.free, I.freeC, fun p hp => ?_, tracked ⟨oL, hoL, I.free⟩ hs, by simpa using I.len⟩ ⟨_, hs, .inl rfl⟩
    · exact (hs.2 b (Nat.ne_of_lt (Nat.lt_of_lt_of_le (Heap.lt_size e) I.ok.above))).trans (I.base.keep b o e n hb hx)
    · obtain ⟨sl, e1⟩ := I.base.slot b o e n hb hx
      exact ⟨sl, (hs.2 b (Nat.ne_of_lt (Nat.lt_of_lt_of_le (Heap.lt_size e) I.ok.above))).trans e1⟩
    · obtain ⟨o', e1⟩ := I.base.there b o e hx
      exact ⟨o', (hs.2 b (Nat.ne_of_lt (Nat.lt_of_lt_of_le (Heap.lt_size e) I.ok.above))).trans e1⟩
    · by_cases hj : j = i
      · subst hj
        rw [hi] at e1; cases e1
        rw [List.getElem?_set_self hiσ] at e2
        cases e2
        exact ⟨u, r, .inl ⟨hk, by simp⟩⟩
      · rw [List.getElem?_set_ne (Ne.symm hj)] at e2
        obtain ⟨u', r', q⟩ := hl j y v' e1 e2 e3
        refine ⟨u', r', ?_⟩
        rcases q with ⟨k, e⟩ | ⟨k, c, e, z⟩
        · refine .inl ⟨k, ?_⟩
          have : y ≠ x := fun e => hj (nodup_ix hN e1 (e ▸ hi))
          simp [this, e]
        · exact .inr ⟨k, c, e, z.sameBut hs (cne y c e)⟩
    · obtain ⟨w', z⟩ := I.cell y c e
      exact ⟨w', z.sameBut hs (cne y c e)⟩
    · obtain ⟨e, n, ne, nf, d⟩ := I.pin p hp
      exact ⟨(hs.2 p.1 ne).trans e, n, ne, nf, d⟩
  · have hfn : X.fn x = true := by
      rcases hf with z | z
      · exact z
      · rw [z] at hk; cases hk
    obtain ⟨c, hc⟩ := I.ok.has x (.inl hk)
    obtain ⟨w', z⟩ := I.cell x c hc
    refine wpAny_storeName_cell I.ok.kind hk hc z (fun h' hc' hs => ?_)
    obtain ⟨oc, hoc, hocd⟩ := id z
    refine h { s with heap := h' } ⟨I.ok, I.os, I.bare, ⟨fun b o e n hb hx => ?_, fun b o e n hb hx => ?_, I.base.free, fun b o e hx => ?_, I.base.tups, I.base.frzs, I.base.tbls⟩, ⟨m, hn.sameBut hs (Ne.symm (cne x c hc)), fun j y v' e1 e2 e3 => ?_⟩, fun y c' e => ?_, I.free, I.freeC, fun p hp => ?_, tracked ⟨oc, hoc, I.freeC x c hc⟩ hs, by simpa using I.len⟩ ⟨c, hs, .inr hc⟩
    · exact (hs.2 b (Nat.ne_of_lt (Nat.lt_of_lt_of_le (Heap.lt_size e) (I.ok.cab x c hfn hc)))).trans (I.base.keep b o e n hb hx)
    · obtain ⟨sl, e1⟩ := I.base.slot b o e n hb hx
      exact ⟨sl, (hs.2 b (Nat.ne_of_lt (Nat.lt_of_lt_of_le (Heap.lt_size e) (I.ok.cab x c hfn hc)))).trans e1⟩
    · obtain ⟨o', e1⟩ := I.base.there b o e hx
      exact ⟨o', (hs.2 b (Nat.ne_of_lt (Nat.lt_of_lt_of_le (Heap.lt_size e) (I.ok.cab x c hfn hc)))).trans e1⟩
    · by_cases hj : j = i
      · subst hj
        rw [hi] at e1; cases e1
        rw [List.getElem?_set_self hiσ] at e2
        cases e2
        exact ⟨u, r, .inr ⟨.inl hk, c, hc, hc'⟩⟩
      · rw [List.getElem?_set_ne (Ne.symm hj)] at e2
        obtain ⟨u', r', q⟩ := hl j y v' e1 e2 e3
        refine ⟨u', r', ?_⟩
        rcases q with q | ⟨k, c', e, z'⟩
        · exact .inl q
        · refine .inr ⟨k, c', e, z'.sameBut hs ?_⟩
          rintro rfl
          exact hj (nodup_ix hN e1 (I.ok.inj _ _ _ e hc ▸ hi))
    · by_cases hcc : c' = c
      · subst hcc; exact ⟨_, hc'⟩
      · obtain ⟨w2, z2⟩ := I.cell y c' e
        exact ⟨w2, z2.sameBut hs hcc⟩
    · obtain ⟨e, n, ne, nf, d⟩ := I.pin p hp
      refine ⟨(hs.2 p.1 ?_).trans e, n, ne, nf, d⟩
      intro q
      rw [q, hoc] at e
      have q' : oc = p.2 := Option.some.inj e
      exact d w' (by rw [← q']; exact hocd)
theorem store_ok {M : Model} {A : Around} {E : Value → Shared → Prop} {i : Nat} {x : Str} {v : V} {u : Value} {Q : Unit → Shared → Prop} (I : Inv X pins σ H s) (hN : X.N.Nodup) (hi : X.N[i]? = some x) (hx : Loc X.env.scope x) (r : RelV v u)
    (h : ∀ s', Inv X pins (σ.set i (some v)) H s' → Q () s') (hf : X.fn x = true ∨ X.env.scope.names.lookup x = some .local := by first | exact .inl rfl | exact .inr rfl | assumption) : wpAny M A (storeName X.env x u) Q E s :=
  store_ok2 I hN hi hx r (fun s' I' _ => h s' I') hf
/-- behind a call or a block, the state as it is -/
theorem Inv.call' {s' : Shared} {ch : List Addr} (I : Inv X pins σ H s) (ho : s'.os = s.os) (u : Un (frs X.stack) ch H H' s.heap s'.heap) (hok : HOk X.prog X.w H' s'.heap) (hg : AllBare s'.gens)
    (hch : ∀ b ∈ ch, (b ∈ X.ex ∨ X.s_0.heap.objs.size ≤ b) ∧ b ≠ X.env.locals ∧ (∀ x c, X.env.cells.lookup x = some c → c ≠ b) ∧ ∀ p ∈ X.pn ++ pins, p.1 ≠ b) : Inv X pins σ H' s' := by
  obtain ⟨h', g', d', t', o'⟩ := s'
  have e : o' = s.os := ho
  subst e
  exact I.call (g' := g') (t' := t') (d' := d') u hok hg hch
end

/-! ### the judgements -/
/-- an exception: its class, its own dict's address (where it has one), the abstract heap behind it -/
abbrev XK := Value → Option Addr → Hp → Prop
abbrev St := List (Option V)
abbrev VK := V → Hp → Prop
/-- an expression's reading; a test's; an argument list's -/
abbrev TE := St → Hp → VK → Prop
abbrev TT := St → Hp → (Bool → Hp → Prop) → Prop
abbrev TA := St → Hp → (List V → Hp → Prop) → Prop
/-- what is wanted behind a statement -/
structure Ends where
  nx : St → Hp → Prop
  rt : VK
  bk : St → Hp → Prop := fun _ _ => False
  ct : St → Hp → Prop := fun _ _ => False
abbrev TS := Ends → St → Hp → Prop

def EP (X : Cx) (pins : List (Addr × Obj)) (σ : St) (Q : VK) (u : Value) (s' : Shared) : Prop := ∃ v H', Inv X pins σ H' s' ∧ RelV v u ∧ Q v H'
def TP (X : Cx) (pins : List (Addr × Obj)) (σ : St) (Q : Bool → Hp → Prop) (b : Bool) (s' : Shared) : Prop := ∃ H', Inv X pins σ H' s' ∧ Q b H'
def AP (X : Cx) (pins : List (Addr × Obj)) (σ : St) (Q : List V → Hp → Prop) (us : List Value) (s' : Shared) : Prop := ∃ vs H', Inv X pins σ H' s' ∧ Vals vs us ∧ Q vs H'
def SP (X : Cx) (pins : List (Addr × Obj)) (D : Ends) (f : Flow) (s' : Shared) : Prop :=
  match f with
  | .next => ∃ σ' H', Inv X pins σ' H' s' ∧ D.nx σ' H'
  | .brk => ∃ σ' H', Inv X pins σ' H' s' ∧ D.bk σ' H'
  | .cont => ∃ σ' H', Inv X pins σ' H' s' ∧ D.ct σ' H'
  | .ret u => ∃ v σ' H', Inv X pins σ' H' s' ∧ RelV v u ∧ D.rt v H'

def PE (X : Cx) (e : Expr) (t : TE) : Prop :=
  ∀ (pins : List (Addr × Obj)) (s : Shared) (σ : St) (H : Hp) (Q : VK), Inv X pins σ H s → t σ H Q → wpAny (model X.prog X.w) X.A (eval e X.env) (EP X pins σ Q) X.xe s
def PT (X : Cx) (e : Expr) (t : TT) : Prop :=
  ∀ (pins : List (Addr × Obj)) (s : Shared) (σ : St) (H : Hp) (Q : Bool → Hp → Prop), Inv X pins σ H s → t σ H Q → wpAny (model X.prog X.w) X.A (isTrue e X.env (eval e X.env)) (TP X pins σ Q) X.xe s
/-- a test whatever its 'whole' is (and, or) -/
def PW (X : Cx) (e : Expr) (t : TT) : Prop :=
  ∀ (whole : Sem Value) (pins : List (Addr × Obj)) (s : Shared) (σ : St) (H : Hp) (Q : Bool → Hp → Prop), Inv X pins σ H s → t σ H Q → wpAny (model X.prog X.w) X.A (isTrue e X.env whole) (TP X pins σ Q) X.xe s
theorem PW.pt {X : Cx} {e : Expr} {t : TT} (h : PW X e t) : PT X e t := h _
/-- an argument list (no star), from the left -/
def PA (X : Cx) (es : List Expr) (t : TA) : Prop :=
  ∀ (pos : Pos) (pins : List (Addr × Obj)) (s : Shared) (σ : St) (H : Hp) (Q : List V → Hp → Prop), Inv X pins σ H s → t σ H Q → wpAny (model X.prog X.w) X.A (spliced (backTo pos (starEach es X.env))) (AP X pins σ Q) X.xe s
def PS (X : Cx) (st : Stmt) (t : TS) : Prop :=
  ∀ (pins : List (Addr × Obj)) (s : Shared) (σ : St) (H : Hp) (D : Ends), Inv X pins σ H s → t D σ H → wpAny (model X.prog X.w) X.A (exec st X.env) (SP X pins D) X.xe s
def PSs (X : Cx) (st : List Stmt) (t : TS) : Prop :=
  ∀ (pins : List (Addr × Obj)) (s : Shared) (σ : St) (H : Hp) (D : Ends), Inv X pins σ H s → t D σ H → wpAny (model X.prog X.w) X.A (execs st X.env) (SP X pins D) X.xe s
/-- weaken the end -/
theorem thn {α : Type} {t : Sem α} {Q Q' : α → Shared → Prop} {M : Model} {A : Around} {E : Value → Shared → Prop} {s : Shared} (h : wpAny M A t Q E s) (hQ : ∀ a s, Q a s → Q' a s) : wpAny M A t Q' E s := wpAny_mono h hQ fun _ _ x => x
end L2

namespace L2
open PySem PySem.Spec PyProof.Rows
section
variable {X : Cx}

/-- two expressions in a row -/
theorem bin {a b : Expr} {ta tb : TE} (ha : PE X a ta) (hb : PE X b tb) {pins : List (Addr × Obj)} {s : Shared} {σ : St} {H : Hp} {R : V → V → Hp → Prop} (I : Inv X pins σ H s) (h : ta σ H fun x H1 => tb σ H1 fun y H2 => R x y H2)
    {α : Type} {Q : α → Shared → Prop} {f : Value → Value → Sem α}
    (hf : ∀ v u s2 x y H2, Inv X pins σ H2 s2 → RelV x v → RelV y u → R x y H2 → wpAny (model X.prog X.w) X.A (f v u) Q X.xe s2) :
    wpAny (model X.prog X.w) X.A (eval a X.env) (fun v s₁ => wpAny (model X.prog X.w) X.A (eval b X.env) (fun u s₂ => wpAny (model X.prog X.w) X.A (f v u) Q X.xe s₂) X.xe s₁) X.xe s := by
  refine thn (ha pins s σ H _ I h) fun v s1 ⟨x, H1, I1, r1, q1⟩ => ?_
  refine thn (hb pins s1 σ H1 _ I1 q1) fun u s2 ⟨y, H2, I2, r2, q2⟩ => ?_
  exact hf v u s2 x y H2 I2 r1 r2 q2

/-! ### names and constants -/
def tVar (i : Nat) : TE := fun σ H Q => ∃ v, σ[i]? = some (some v) ∧ Q v H
def tC (v : V) : TE := fun _ H Q => Q v H
theorem pe_var {i : Nat} {x : Str} {pos : Pos} (hN : X.N[i]? = some x) (hv : Vis X.env.scope x) (hd : (x == ("__debug__" : Str)) = false := by decide) (hcd : (x == ("__classdict__" : Str)) = false := by decide) : PE X (.Name x pos) (tVar i) := by
  intro pins s σ H Q I h
  obtain ⟨v, e, h⟩ := h
  obtain ⟨m, hn, hl⟩ := I.loc
  obtain ⟨u, r, l⟩ := hl i x v hN e hv
  have fin : EP X pins σ Q u s := ⟨v, H, I, r, h⟩
  rcases l with ⟨hk, hm⟩ | ⟨hk, c, hc, hcell⟩
  · exact wpAny_Name (wpAny_loadName_local I.ok.kind hk hn hm fin) hd
  · rcases hk with hk | hk
    · exact wpAny_Name (wpAny_loadName_cell I.ok.kind hk hc hcell fin) hd
    · exact wpAny_Name (wpAny_loadName_free I.ok.kind hk hc hcell fin hcd) hd
theorem pe_int {i j pos} : PE X (.Constant (.int i) j pos) (tC (.int i)) := fun _ _ _ H _ I h => wpAny_Constant_int ⟨.int i, H, I.tok _, ⟨_, rfl⟩, h⟩
theorem pe_bl {b j pos} : PE X (.Constant (.bool b) j pos) (tC (.bl b)) := fun _ _ _ H _ I h => Constant_bool ⟨.bl b, H, I, rfl, h⟩
theorem pe_non {j pos} : PE X (.Constant .none j pos) (tC .non) := fun _ _ _ H _ I h => Constant_none ⟨.non, H, I, rfl, h⟩

/-- a global name of the def -/
def Gl (X : Cx) (x : Str) : Prop := X.env.kindOf x = some .globalImplicit
theorem ld_glob {E : Value → Shared → Prop} {pins : List (Addr × Obj)} {s : Shared} {σ : St} {H : Hp} {x : Str} {u : Value} {pos : Pos} {Q : Value → Shared → Prop} (I : Inv X pins σ H s) (hg : Gl X x) (hm : X.mg x = some u) (h : Q u s)
    (hd : (x == ("__debug__" : Str)) = false := by decide) : wpAny (model X.prog X.w) X.A (eval (.Name x pos) X.env) Q E s :=
  Calls.Name_function_global I.ok.kind hg (Calls.loadGlobal_global (by rw [I.ok.glob]; exact I.mod.glob.keeps I.bk) hm h) hd
theorem ld_blt {E : Value → Shared → Prop} {pins : List (Addr × Obj)} {s : Shared} {σ : St} {H : Hp} {x : Str} {u : Value} {pos : Pos} {Q : Value → Shared → Prop} (I : Inv X pins σ H s) (hg : Gl X x) (hm : X.mg x = none) (hv : bootBuiltins x = some u) (h : Q u s)
    (hn : x ≠ "__name__" := by decide) (hd : (x == ("__debug__" : Str)) = false := by decide) : wpAny (model X.prog X.w) X.A (eval (.Name x pos) X.env) Q E s := by
  obtain ⟨mb, h1, h2⟩ := I.mod.blt
  exact Calls.Name_function_global I.ok.kind hg (Calls.loadGlobal_builtin (by rw [I.ok.glob]; exact I.mod.glob.keeps I.bk) hm (by rw [I.ok.blt]; exact h1.keeps I.bk) ((h2 x hn).trans hv) h) hd
/-- a module's constant, a class, a function, as a value -/
theorem pe_glob {x : Str} {v : V} {u : Value} {pos : Pos} (hg : Gl X x) (hm : X.mg x = some u) (r : RelV v u) (hd : (x == ("__debug__" : Str)) = false := by decide) : PE X (.Name x pos) (tC v) :=
  fun _ _ _ H _ I h => ld_glob I hg hm ⟨v, H, I, r, h⟩ hd

/-! ### arithmetic -/
/-- two ints -/
def t2I (ta tb : TE) (k : Int → Int → Hp → Prop) : St → Hp → Prop := fun σ H => ta σ H fun x H1 => tb σ H1 fun y H2 => ∃ i j, x = .int i ∧ y = .int j ∧ k i j H2
def tAdd (ta tb : TE) : TE := fun σ H Q => t2I ta tb (fun i j H2 => Q (.int (i + j)) H2) σ H
def tSub (ta tb : TE) : TE := fun σ H Q => t2I ta tb (fun i j H2 => Q (.int (i - j)) H2) σ H
/-- the left factor below 2^64 -/
def tMul (ta tb : TE) : TE := fun σ H Q => t2I ta tb (fun i j H2 => (-(2 ^ 64) < i ∧ i < 2 ^ 64) ∧ Q (.int (i * j)) H2) σ H
variable {a b : Expr} {ta tb : TE} {pos : Pos}

/-! ### comparisons -/
def PC (X : Cx) (op : CmpOp) (a b : Expr) (t : TE) : Prop :=
  ∀ (pins : List (Addr × Obj)) (s : Shared) (σ : St) (H : Hp) (Q : VK), Inv X pins σ H s → t σ H Q →
    wpAny (model X.prog X.w) X.A (eval a X.env) (fun v s₁ => wpAny (model X.prog X.w) X.A (eval b X.env) (fun u s₂ => wpAny (model X.prog X.w) X.A (compareOp op v u) (EP X pins σ Q) X.xe s₂) X.xe s₁) X.xe s
theorem nobehind (b : Expr) {op : CmpOp} (h : op ≠ .In) (h2 : op ≠ .NotIn) : behindInMarks op b = false := by
  have e1 : (op == CmpOp.In) = false := by cases op <;> first | rfl | exact absurd rfl h
  have e2 : (op == CmpOp.NotIn) = false := by cases op <;> first | rfl | exact absurd rfl h2
  cases b <;> simp [behindInMarks, e1, e2]
def tCmp (p : Int → Int → Bool) (ta tb : TE) : TE := fun σ H Q => t2I ta tb (fun i j H2 => Q (.bl (p i j)) H2) σ H
abbrev tLt : TE → TE → TE := tCmp fun i j => decide (i < j)
abbrev tLe : TE → TE → TE := tCmp fun i j => decide (i ≤ j)
abbrev tGt : TE → TE → TE := tCmp fun i j => decide (j < i)
abbrev tGe : TE → TE → TE := tCmp fun i j => decide (j ≤ i)
abbrev tEqI : TE → TE → TE := tCmp fun i j => decide (i = j)
abbrev tNeI : TE → TE → TE := tCmp fun i j => !decide (i = j)
/-- is None -/
def tIsN (ta : TE) : TE := fun σ H Q => ta σ H fun x H1 => Q (.bl (decide (x = .non))) H1
def tNotN (ta : TE) : TE := fun σ H Q => ta σ H fun x H1 => Q (.bl (!decide (x = .non))) H1
/-- a comparison as a value, as a test -/
def tB (t : TE) : TT := fun σ H Q => t σ H fun x H1 => ∃ c, x = .bl c ∧ Q c H1
theorem pt_cmp {op : CmpOp} {t : TE} (h : PC X op a b t) (h1 : behindInMarks op b = false := by first | exact nobehind _ (by decide) (by decide) | rfl) : PT X (.Compare a [op] [b] pos) (tB t) := by
  intro pins s σ H Q I hw
  refine wpAny_isTrue_Compare1 (thn (h pins s σ H _ I hw) fun v s1 h1 => thn h1 fun u s2 h2 => thn h2 fun c s3 ⟨x, H1, I1, r1, q1⟩ => ?_) h1
  obtain ⟨d, rfl, q⟩ := q1
  cases r1
  exact wpAny_truthy_bool ⟨H1, I1, q⟩
/-- an expression whose value is a bool, as a test -/
theorem pt_val {e : Expr} {t : TE} (h : PE X e t) (he : ∀ whole, isTrue e X.env whole = (do let v ← whole; standAt e.pos; holding [v] (truthy v)) := by intro _; rfl) : PT X e (tB t) := by
  intro pins s σ H Q I hw
  refine isTrue_plain (thn (h pins s σ H _ I hw) fun v s1 ⟨x, H1, I1, r1, q1⟩ => ?_) (he _)
  obtain ⟨d, rfl, q⟩ := q1
  cases r1
  exact wpAny_truthy_bool ⟨H1, I1, q⟩

/-! ### and, or, not -/
variable {tA tB' : TT} {rest : List Expr}
def tAnd (t u : TT) : TT := fun σ H Q => t σ H fun c H1 => if c = true then u σ H1 Q else Q false H1
def tOr (t u : TT) : TT := fun σ H Q => t σ H fun c H1 => if c = true then Q true H1 else u σ H1 Q
def tNot (t : TT) : TT := fun σ H Q => t σ H fun c H1 => Q (!c) H1
theorem pw_and1 (ha : PT X a tA) : PW X (.BoolOp .And [a] pos) tA := by
  intro wh pins s σ H Q I h
  refine isTrue_and (thn (ha pins s σ H Q I h) fun c s1 e => ?_)
  cases c with
  | true => exact isTrue_and_nil e
  | false => exact e
theorem pw_or1 (ha : PT X a tA) : PW X (.BoolOp .Or [a] pos) tA := by
  intro wh pins s σ H Q I h
  refine isTrue_or (thn (ha pins s σ H Q I h) fun c s1 e => ?_)
  cases c with
  | false => exact isTrue_or_nil e
  | true => exact e
theorem pw_and (ha : PT X a tA) (hb : PW X (.BoolOp .And (b :: rest) pos) tB') : PW X (.BoolOp .And (a :: b :: rest) pos) (tAnd tA tB') := by
  intro wh pins s σ H Q I h
  refine isTrue_and (thn (ha pins s σ H _ I h) fun c s1 ⟨H1, I1, q1⟩ => ?_)
  cases c with
  | true => exact hb wh pins s1 σ H1 Q I1 q1
  | false => exact ⟨H1, I1, q1⟩
theorem pw_or (ha : PT X a tA) (hb : PW X (.BoolOp .Or (b :: rest) pos) tB') : PW X (.BoolOp .Or (a :: b :: rest) pos) (tOr tA tB') := by
  intro wh pins s σ H Q I h
  refine isTrue_or (thn (ha pins s σ H _ I h) fun c s1 ⟨H1, I1, q1⟩ => ?_)
  cases c with
  | true => exact ⟨H1, I1, q1⟩
  | false => exact hb wh pins s1 σ H1 Q I1 q1
theorem pt_not (ha : PT X a tA) : PT X (.UnaryOp .Not a pos) (tNot tA) := by
  intro pins s σ H Q I h
  exact isTrue_not (ha pins s σ H (fun c H1 => Q (!c) H1) I h)
/-- .. as values (bools) -/
def tAndV (ta tb : TE) : TE := fun σ H Q => ta σ H fun x H1 => ∃ c, x = .bl c ∧ if c = true then tb σ H1 Q else Q (.bl false) H1
def tOrV (ta tb : TE) : TE := fun σ H Q => ta σ H fun x H1 => ∃ c, x = .bl c ∧ if c = true then Q (.bl true) H1 else tb σ H1 Q
def tNotV (ta : TE) : TE := fun σ H Q => ta σ H fun x H1 => ∃ c, x = .bl c ∧ Q (.bl (!c)) H1
/-- a if t else b -/
def tIf (t : TT) (ta tb : TE) : TE := fun σ H Q => t σ H fun c H1 => if c = true then ta σ H1 Q else tb σ H1 Q
theorem pe_ifExp {c : Expr} (hc : PT X c tA) (ha : PE X a ta) (hb : PE X b tb) : PE X (.IfExp c a b pos) (tIf tA ta tb) := by
  intro pins s σ H Q I h
  refine wpAny_IfExp (thn (hc pins s σ H _ I h) fun d s1 ⟨H1, I1, q1⟩ => ?_)
  cases d with
  | true => exact ha pins s1 σ H1 Q I1 q1
  | false => exact hb pins s1 σ H1 Q I1 q1
end
end L2

namespace L2
open PySem PySem.Spec PyProof.Rows

/-! ### a list, a tuple that is read: tracked, frozen, or an object of the module -/
def SqL (K : PySem.W.Frag) (H : Hp) (a : Addr) (xs : List V) : Prop :=
  Rd H a (.lst xs) ∨
    ∃ (o : Obj) (its : Array Value) (n : Nat), K.lookup a = some o ∧ o.cls = .type "list" ∧ o.dict = none ∧ o.data = .seq its n ∧ its.size ≤ sizeLine ∧ Vals xs its.toList
def SqT (K : PySem.W.Frag) (H : Hp) (a : Addr) (xs : List V) : Prop :=
  Rd H a (.tup xs) ∨
    ∃ (o : Obj) (its : Array Value) (n : Nat), K.lookup a = some o ∧ o.cls = .type "tuple" ∧ o.data = .seq its n ∧ its.size ≤ sizeLine ∧ Vals xs its.toList
def absV : Value → Option V
  | .none => some .non
  | .bool b => some (.bl b)
  | .int i _ => some (.int i)
  | .str x _ => some (.str x)
  | .bytes b _ => some (.byt b)
  | .float b _ => some (.flt b)
  | .ref a => some (.ref a)
  | .type n => some (.ty n)
  | _ => none
theorem RelV.abs {x : V} {u : Value} (r : RelV x u) : absV u = some x := by
  cases x with
  | non => cases r; rfl
  | bl _ => cases r; rfl
  | int _ => obtain ⟨t, rfl⟩ := r; rfl
  | str _ => obtain ⟨t, rfl⟩ := r; rfl
  | byt _ => obtain ⟨t, rfl⟩ := r; rfl
  | flt _ => obtain ⟨t, rfl⟩ := r; rfl
  | ref _ => cases r; rfl
  | ty _ => cases r; rfl
theorem RelV.inj {x y : V} {u : Value} (r : RelV x u) (q : RelV y u) : x = y := Option.some.inj (r.abs.symm.trans q.abs)
theorem Vals.inj : ∀ {xs ys : List V} {us : List Value}, Vals xs us → Vals ys us → xs = ys
  | _, _, _, .nil, .nil => rfl
  | _, _, _, .cons r t, .cons r' t' => by rw [r.inj r', Vals.inj t t']
section
variable {X : Cx} {pins : List (Addr × Obj)} {σ : St} {H : Hp} {s : Shared} {a : Addr} {xs ys : List V}
theorem SqL.of {K : PySem.W.Frag} (h : H a = some (.lst xs)) : SqL K H a xs := .inl (.inl h)
theorem SqT.of {K : PySem.W.Frag} (h : H a = some (.tup xs)) : SqT K H a xs := .inl (.inl h)
theorem Inv.list (I : Inv X pins σ H s) (h : SqL X.K H a xs) : ∃ its : List Value, Vals xs its ∧ PlainL s.heap a its.toArray ∧ xs.length ≤ sizeLine := by
  rcases h with h | ⟨o, its, n, hk, hc, hd, hs, hz, r⟩
  · obtain ⟨z, its, n, r, e⟩ := h.ok I.hok
    exact ⟨its, r, ⟨_, n, e, rfl, rfl, rfl⟩, z⟩
  · refine ⟨its.toList, r, ⟨o, n, I.kIn a o hk, hc, hd, by simpa using hs⟩, ?_⟩
    have e := r.length
    simp only [Array.length_toList] at e
    omega
theorem Inv.tuple (I : Inv X pins σ H s) (h : SqT X.K H a xs) : ∃ its : List Value, Vals xs its ∧ IsTup s.heap a its.toArray ∧ xs.length ≤ sizeLine := by
  rcases h with h | ⟨o, its, n, hk, hc, hs, hz, r⟩
  · obtain ⟨z, its, r, p⟩ := h.ok I.hok
    exact ⟨its, r, p, z⟩
  · refine ⟨its.toList, r, ⟨o, I.kIn a o hk, hc, n, by simpa using hs⟩, ?_⟩
    have e := r.length
    simp only [Array.length_toList] at e
    omega
theorem Inv.list_inj (I : Inv X pins σ H s) (h : SqL X.K H a xs) (h' : SqL X.K H a ys) : xs = ys := by
  obtain ⟨its, r, ⟨o, n, e, _, _, d⟩, _⟩ := I.list h
  obtain ⟨its', r', ⟨o', n', e', _, _, d'⟩, _⟩ := I.list h'
  rw [e] at e'; cases e'
  rw [d] at d'
  injection d' with d1 _
  have : its = its' := by simpa using congrArg Array.toList d1
  subst this
  exact r.inj r'
end

/-! ### another wish about exceptions -/
abbrev Cx.wish (X : Cx) (E : Value → Shared → Prop) : Cx := { X with xe := E }
/-- no exception leaves -/
abbrev Cx.nox (X : Cx) : Cx := X.wish fun _ _ => False
theorem Cx.Ok.wish {X : Cx} (ok : X.Ok) (E : Value → Shared → Prop) : (X.wish E).Ok :=
  ⟨ok.mod, ok.kind, ok.glob, ok.blt, ok.above, ok.inj, ok.has, ok.cab, ok.hd, ok.frames, ok.stk, ok.exf, ok.bs, ok.bsz, ok.noex, ok.exfs, ok.funs, ok.frf⟩
theorem Cx.Ok.unwish {X : Cx} {E : Value → Shared → Prop} (ok : (X.wish E).Ok) : X.Ok :=
  ⟨ok.mod, ok.kind, ok.glob, ok.blt, ok.above, ok.inj, ok.has, ok.cab, ok.hd, ok.frames, ok.stk, ok.exf, ok.bs, ok.bsz, ok.noex, ok.exfs, ok.funs, ok.frf⟩
section
variable {X : Cx} {pins : List (Addr × Obj)} {σ : St} {H : Hp} {s : Shared} {E : Value → Shared → Prop}
theorem Inv.wish (I : Inv X pins σ H s) (E : Value → Shared → Prop) : Inv (X.wish E) pins σ H s := ⟨I.ok.wish E, I.os, I.bare, I.base, I.loc, I.cell, I.free, I.freeC, I.pin, I.hok, I.len⟩
theorem Inv.unwish (I : Inv (X.wish E) pins σ H s) : Inv X pins σ H s := ⟨I.ok.unwish, I.os, I.bare, I.base, I.loc, I.cell, I.free, I.freeC, I.pin, I.hok, I.len⟩
theorem SP.unwish {D : Ends} {f : Flow} {s' : Shared} (h : SP (X.wish E) pins D f s') : SP X pins D f s' := by
  cases f with
  | next => obtain ⟨σ', H', I, q⟩ := h; exact ⟨σ', H', I.unwish, q⟩
  | brk => obtain ⟨σ', H', I, q⟩ := h; exact ⟨σ', H', I.unwish, q⟩
  | cont => obtain ⟨σ', H', I, q⟩ := h; exact ⟨σ', H', I.unwish, q⟩
  | ret u => obtain ⟨v, σ', H', I, r, q⟩ := h; exact ⟨v, σ', H', I.unwish, r, q⟩
theorem PE.nox {e : Expr} {t : TE} (h : PE X.nox e t) : PE X e t := fun pins s σ H Q I hw =>
  wpAny_mono (h pins s σ H Q (I.wish _) hw) (fun _ _ ⟨v, H', I', r, q⟩ => ⟨v, H', I'.unwish, r, q⟩) fun _ _ z => False.elim z
theorem PT.nox {e : Expr} {t : TT} (h : PT X.nox e t) : PT X e t := fun pins s σ H Q I hw =>
  wpAny_mono (h pins s σ H Q (I.wish _) hw) (fun _ _ ⟨H', I', q⟩ => ⟨H', I'.unwish, q⟩) fun _ _ z => False.elim z
theorem PSs.nox {st : List Stmt} {t : TS} (h : PSs X.nox st t) : PSs X st t := fun pins s σ H D I hw =>
  wpAny_mono (h pins s σ H D (I.wish _) hw) (fun _ _ q => q.unwish) fun _ _ z => False.elim z
end

/-! ### blocks and small statements -/
section
variable {X : Cx} {st : Stmt} {rest : List Stmt} {t u : TS} {e : Expr} {te : TE} {pos : Pos}
def tNext : TS := fun D σ H => D.nx σ H
def tSeq (t u : TS) : TS := fun D σ H => t { D with nx := u D } σ H
theorem pss_nil : PSs X [] tNext := fun _ _ σ H _ I h => wpAny_execs_nil ⟨σ, H, I, h⟩
theorem pss_cons (h1 : PS X st t) (h2 : PSs X rest u) : PSs X (st :: rest) (tSeq t u) := by
  intro pins s σ H D I h
  refine wpAny_execs_cons (thn (h1 pins s σ H { D with nx := u D } I h) fun f s1 q => ?_)
  cases f with
  | next =>
    obtain ⟨σ', H', I', q⟩ := q
    exact h2 pins s1 σ' H' D I' q
  | ret v => exact q
  | brk => exact q
  | cont => exact q
theorem pss_one (h1 : PS X st t) : PSs X [st] t := by
  intro pins s σ H D I h
  refine wpAny_execs_cons (thn (h1 pins s σ H D I h) fun f s1 q => ?_)
  cases f with
  | next => exact wpAny_execs_nil q
  | ret v => exact q
  | brk => exact q
  | cont => exact q
def tBreak : TS := fun D σ H => D.bk σ H
def tCont : TS := fun D σ H => D.ct σ H
/-- in a def's body nothing is shown -/
theorem Inv.quiet {pins : List (Addr × Obj)} {σ : St} {H : Hp} {s : Shared} (I : Inv X pins σ H s) : interactive X.env = false := by simp [interactive, I.ok.kind]
/-- an expression whose value is dropped -/
def tDrop (te : TE) : TS := fun D σ H => te σ H fun _ H1 => D.nx σ H1
theorem ps_expr (he : PE X e te) (hs : swapsWith e none pos.line X.env = pure false := by rfl) : PS X (.Expr e pos) (tDrop te) := by
  intro pins s σ H D I h
  exact wpAny_Expr_any (thn (he pins s σ H _ I h) fun v s1 ⟨x, H1, I1, r1, q1⟩ => ⟨σ, H1, I1, q1⟩) I.quiet hs
def tRet (te : TE) : TS := fun D σ H => te σ H D.rt
theorem ps_ret (he : PE X e te) : PS X (.Return (some e) pos) (tRet te) := by
  intro pins s σ H D I h
  exact wpAny_Return_some (thn (he pins s σ H _ I h) fun v s1 ⟨x, H1, I1, r1, q1⟩ => ⟨x, σ, H1, I1, r1, q1⟩)
def tRetN : TS := fun D _ H => D.rt .non H
def tIfS (c : TT) (t u : TS) : TS := fun D σ H => c σ H fun b H1 => if b = true then t D σ H1 else u D σ H1
theorem ps_if {c : Expr} {a b : List Stmt} {tc : TT} (hc : PT X c tc) (ha : PSs X a t) (hb : PSs X b u) : PS X (.If c a b pos) (tIfS tc t u) := by
  intro pins s σ H D I h
  refine wpAny_If (thn (hc pins s σ H _ I h) fun d s1 ⟨H1, I1, q1⟩ => ?_)
  cases d with
  | true => exact ha pins s1 σ H1 D I1 q1
  | false => exact hb pins s1 σ H1 D I1 q1
/-- code that the proof never comes to -/
def tNever : TS := fun _ _ _ => False
end

/-! ### targets -/
abbrev TG := V → St → Hp → (St → Hp → Prop) → Prop
abbrev TGs := List V → St → Hp → (St → Hp → Prop) → Prop
def PG (X : Cx) (target : Expr) (t : TG) : Prop :=
  ∀ (pins : List (Addr × Obj)) (s : Shared) (σ : St) (H : Hp) (v : V) (u : Value) (Q : St → Hp → Prop), Inv X pins σ H s → RelV v u → t v σ H Q →
    wpAny (model X.prog X.w) X.A (assign target X.env u) (fun _ s' => ∃ σ' H', Inv X pins σ' H' s' ∧ Q σ' H') X.xe s
/-- several targets, one after another -/
def PGs (X : Cx) (ts : List Expr) (t : TGs) : Prop :=
  ∀ (pins : List (Addr × Obj)) (s : Shared) (σ : St) (H : Hp) (vs : List V) (us : List Value) (Q : St → Hp → Prop), Inv X pins σ H s → Vals vs us → t vs σ H Q →
    wpAny (model X.prog X.w) X.A (assignInOrder ((assignEach ts X.env).map (·.2)) us) (fun _ s' => ∃ σ' H', Inv X pins σ' H' s' ∧ Q σ' H') X.xe s
/-- o[i] = v, by values -/
abbrev TSet := V → V → V → Hp → (Hp → Prop) → Prop
def PSet (X : Cx) (t : TSet) : Prop :=
  ∀ (pins : List (Addr × Obj)) (s : Shared) (σ : St) (H : Hp) (o i v : V) (ov iv u : Value) (Q : Hp → Prop), Inv X pins σ H s → RelV o ov → RelV i iv → RelV v u → t o i v H Q →
    wpAny (model X.prog X.w) X.A (setItem ov iv u) (fun _ s' => ∃ H', Inv X pins σ H' s' ∧ Q H') X.xe s
/-- a op= b, by values -/
abbrev TIp := V → V → Hp → VK → Prop
def PIp (X : Cx) (op : Operator) (t : TIp) : Prop :=
  ∀ (pins : List (Addr × Obj)) (s : Shared) (σ : St) (H : Hp) (x y : V) (v u : Value) (Q : VK), Inv X pins σ H s → RelV x v → RelV y u → t x y H Q →
    wpAny (model X.prog X.w) X.A (inplaceOp op v u) (EP X pins σ Q) X.xe s
section
variable {X : Cx} {pos : Pos}
def gName (i : Nat) : TG := fun v σ H Q => Q (σ.set i (some v)) H
theorem pg_name {i : Nat} {x : Str} (hN : X.N.Nodup) (hi : X.N[i]? = some x) (hx : Loc X.env.scope x) (hf : X.fn x = true ∨ X.env.scope.names.lookup x = some .local := by first | exact .inl rfl | exact .inr rfl | assumption) : PG X (.Name x pos) (gName i) := by
  intro pins s σ H v u Q I r h
  exact wpAny_assign_Name (store_ok I hN hi hx r (fun s' I' => ⟨_, H, I', h⟩) hf)
def gNil : TGs := fun vs σ H Q => vs = [] ∧ Q σ H
def gCons (t : TG) (u : TGs) : TGs := fun vs σ H Q => ∃ v r, vs = v :: r ∧ t v σ H fun σ' H' => u r σ' H' Q
/-- (a, b, ..) = a tuple of that length -/
def gTup (K : PySem.W.Frag) (n : Nat) (t : TGs) : TG := fun v σ H Q => ∃ a xs, v = .ref a ∧ SqT K H a xs ∧ xs.length = n ∧ t xs σ H Q
/-- o[i] = .. -/
def gSub (to ti : TE) (t : TSet) : TG := fun v σ H Q => to σ H fun o H1 => ti σ H1 fun i H2 => t o i v H2 fun H3 => Q σ H3
/-- target = value -/
def tAsg (te : TE) (g : TG) : TS := fun D σ H => te σ H fun x H1 => g x σ H1 D.nx
/-- name = value -/
theorem ps_set {i : Nat} {x : Str} {e : Expr} {te : TE} {pos' : Pos} (hN : X.N.Nodup) (hi : X.N[i]? = some x) (hx : Loc X.env.scope x) (he : PE X e te) (hs : swapsWith e (some (.Name x pos')) pos.line X.env = pure false := by rfl) (hf : X.fn x = true ∨ X.env.scope.names.lookup x = some .local := by first | exact .inl rfl | exact .inr rfl | assumption) :
    PS X (.Assign [.Name x pos'] e pos) (tAsg te (gName i)) := by
  intro pins s σ H D I h
  refine wpAny_Assign_Name (thn (he pins s σ H _ I h) fun v s1 ⟨y, H1, I1, r1, q1⟩ => ?_) hs
  exact store_ok I1 hN hi hx r1 (fun s2 I2 => ⟨_, H1, I2, q1⟩) hf
/-- a, b = x, y with plain local names: stored from the right; the pair itself is not tracked (the opening rows as in PyProof/Rows/TupAssign.lean:23) -/
def tPar (i j : Nat) (ta : TA) : TS := fun D σ H => ta σ H fun vs H1 => ∃ v w, vs = [v, w] ∧ D.nx ((σ.set i (some v)).set j (some w)) H1
/-- name op= e -/
def tAug (i : Nat) (te : TE) (ti : TIp) : TS := fun D σ H => ∃ x, σ[i]? = some (some x) ∧ te σ H fun y H1 => ti x y H1 fun z H2 => D.nx (σ.set i (some z)) H2
/-- o[i] op= e -/
def tAugS (to ti te : TE) (tget : V → V → Hp → VK → Prop) (tip : TIp) (tset : TSet) : TS := fun D σ H => to σ H fun o H1 => ti σ H1 fun i H2 => tget o i H2 fun x H3 => te σ H3 fun y H4 => tip x y H4 fun z H5 => tset o i z H5 fun H6 => D.nx σ H6
/-- o[i], by values -/
def PGet (X : Cx) (t : V → V → Hp → VK → Prop) : Prop :=
  ∀ (pins : List (Addr × Obj)) (s : Shared) (σ : St) (H : Hp) (o i : V) (ov iv : Value) (Q : VK), Inv X pins σ H s → RelV o ov → RelV i iv → t o i H Q →
    wpAny (model X.prog X.w) X.A (getItem ov iv) (EP X pins σ Q) X.xe s
/-- ints -/
def ipI (f : Int → Int → Int) : TIp := fun x y H Q => ∃ i j, x = .int i ∧ y = .int j ∧ Q (.int (f i j)) H
end

/-! ### while -/
section
variable {X : Cx} {pos : Pos}
/-- the invariant W with its measure -/
def tWhile (c : TT) (tb : TS) : TS := fun D σ H => ∃ W : Nat → St → Hp → Prop, (∃ m, W m σ H) ∧ ∀ m σ H, W m σ H →
  c σ H fun b H1 => if b = true then ∃ N : St → Hp → Prop, (∀ σ' H', N σ' H' → ∃ m', m' < m ∧ W m' σ' H') ∧ tb { D with nx := N, ct := N, bk := D.nx } σ H1 else D.nx σ H1
end

/-! ### what a loop or a comprehension walks -/
/-- at turn i: it yields x (the heap may grow), or it stops -/
structure It where
  go : Nat → Hp → Prop
  yld : Nat → Hp → V → Hp → Prop
  stop : Nat → Hp → Prop
/-- the iterator's own objects may turn: they are not the frame's, not pinned, younger than the entry (or a comprehension's own) -/
def FpOk (X : Cx) (pins : List (Addr × Obj)) (H : Hp) (b : Addr) : Prop :=
  H b = none ∧ b ≠ X.env.locals ∧ b ∉ X.fs ∧ (b ∈ X.ex ∨ X.s_0.heap.objs.size ≤ b) ∧ (∀ x c, X.env.cells.lookup x = some c → c ≠ b) ∧ ∀ p ∈ X.pn ++ pins, p.1 ≠ b
theorem Inv.fpOk {X : Cx} {pins : List (Addr × Obj)} {σ : St} {H H' : Hp} {s : Shared} {b : Addr} (I : Inv X pins σ H s) (hb : s.heap.objs.size ≤ b) (hn : H' b = none) : FpOk X pins H' b := by
  refine ⟨hn, Nat.ne_of_gt (Nat.lt_of_lt_of_le I.lt hb), I.nofs hb, .inr (Nat.le_trans I.sz hb), fun x c e z => ?_, fun p hp z => ?_⟩
  · obtain ⟨v, q⟩ := I.cell x c e
    exact absurd (Nat.lt_of_lt_of_le q.lt (by rw [z]; exact hb)) (Nat.lt_irrefl _)
  · exact absurd (Nat.lt_of_lt_of_le (Heap.lt_size (I.pin p hp).1) (by rw [z]; exact hb)) (Nat.lt_irrefl _)
structure Turn (P : Program) (w : World) (K : PySem.W.Frag) (tg : Expr) (J : It) (fp : List Addr) (it : Addr) (tn : Nat → Heap → Prop) : Prop where
  mem : it ∈ fp
  obj : ∀ i h, tn i h → ∀ b ∈ fp, ∃ o, h.get? b = some o ∧ ∀ v, o.data ≠ .cell v
  keep : ∀ i h h', tn i h → (∀ b ∈ fp, ∀ o, h.get? b = some o → h'.get? b = some o) → tn i h'
  item : ∀ (X : Cx), X.prog = P → X.w = w → X.K = K → X.calm = true → ∀ (i : Nat) (pins : List (Addr × Obj)) (s : Shared) (σ : St) (H : Hp) (E : Value → Shared → Prop), Inv X pins σ H s → (∀ b ∈ fp, FpOk X pins H b) → tn i s.heap → J.go i H →
    wpAny (model P w) X.A (pyNext (.ref it)) (fun r s1 => ∃ u, r = some u ∧
      wpAny (model P w) X.A (letOwnedTupleGo tg (.ref it) u) (fun _ s2 => ∃ x H', Inv X pins σ H' s2 ∧ RelV x u ∧ J.yld i H x H' ∧ tn (i + 1) s2.heap ∧ ∀ b ∈ fp, H' b = none) E s1) E s
  done : ∀ (X : Cx), X.prog = P → X.w = w → X.K = K → X.calm = true → ∀ (i : Nat) (pins : List (Addr × Obj)) (s : Shared) (σ : St) (H : Hp) (E : Value → Shared → Prop), Inv X pins σ H s → (∀ b ∈ fp, FpOk X pins H b) → tn i s.heap → J.stop i H →
    wpAny (model P w) X.A (pyNext (.ref it)) (fun r s1 => r = none ∧ Inv X pins σ H s1) E s
  self : ∀ (A : Around) (i : Nat) (s : Shared) (Q : Value → Shared → Prop) (E : Value → Shared → Prop), tn i s.heap → Q (.ref it) s → wpAny (model P w) A (pyIter (.ref it)) Q E s
abbrev TI := St → Hp → (It → Hp → Prop) → Prop
/-- an iterator has come -/
def PIE (X : Cx) (pins : List (Addr × Obj)) (σ : St) (tg : Expr) (R : It → Hp → Prop) (itv : Value) (s2 : Shared) : Prop :=
  ∃ (it : Addr) (fp : List Addr) (tn : Nat → Heap → Prop) (J : It) (H' : Hp), itv = .ref it ∧ Inv X pins σ H' s2 ∧ Turn X.prog X.w X.K tg J fp it tn ∧ tn 0 s2.heap ∧ (∀ b ∈ fp, FpOk X pins H' b) ∧ R J H'
def PI (X : Cx) (tg iter : Expr) (wi : TI) : Prop :=
  ∀ (pins : List (Addr × Obj)) (s : Shared) (σ : St) (H : Hp) (R : It → Hp → Prop), Inv X pins σ H s → wi σ H R →
    wpAny (model X.prog X.w) X.A (eval iter X.env) (fun v s1 => wpAny (model X.prog X.w) X.A (pyIter v) (PIE X pins σ tg R) X.xe s1) X.xe s

/-- the step ahead of the store is nothing for an iterator that keeps no tuple -/
theorem go_of {M : Model} {A : Around} {E : Value → Shared → Prop} {s : Shared} {tg : Expr} {it : Addr} {u : Value} {o : Obj} {n : String} {vs : Array Value} {Q : Unit → Shared → Prop} (ho : s.heap.get? it = some o) (hc : o.cls = .type n) (hd : o.data = .fields vs)
    (hn : ["enumerate", "zip", "dict_itemiterator", "dict_reverseitemiterator", "odict_iterator", "itertools.zip_longest", "itertools.pairwise"].contains n = false) (hQ : Q () s) : wpAny M A (letOwnedTupleGo tg (.ref it) u) Q E s := by
  unfold letOwnedTupleGo
  cases tg <;> first
    | exact wpAny_pure hQ
    | (cases u <;> first
        | exact wpAny_pure hQ
        | (refine wpAny_bind (wpAny_load ho ?_)
           rw [hc, hd]
           show wpAny M A (if (["enumerate", "zip", "dict_itemiterator", "dict_reverseitemiterator", "odict_iterator", "itertools.zip_longest", "itertools.pairwise"].contains n && vs[0]? == some (rawInt _)) = true then _ else _) Q E s
           rw [if_neg (by intro h; rw [hn, Bool.false_and] at h; cases h)]
           exact wpAny_pure hQ))

/-- the list at a, as it stands at each turn (a loop may append to it) -/
def Itl (K : PySem.W.Frag) (a : Addr) : It :=
  ⟨fun i H => ∃ xs x, SqL K H a xs ∧ xs[i]? = some x, fun i H x H' => H' = H ∧ ∀ xs, SqL K H a xs → xs[i]? = some x, fun i H => ∃ xs, SqL K H a xs ∧ xs.length ≤ i⟩
def Itt (K : PySem.W.Frag) (a : Addr) : It :=
  ⟨fun i H => ∃ xs x, SqT K H a xs ∧ xs[i]? = some x, fun i H x H' => H' = H ∧ ∀ xs, SqT K H a xs → xs[i]? = some x, fun i H => ∃ xs, SqT K H a xs ∧ xs.length ≤ i⟩
/-- lo, lo + 1, .. (n of them) -/
def Itr (lo : Int) (n : Nat) : It := ⟨fun i _ => i < n, fun i H x H' => H' = H ∧ x = .int (lo + i), fun i _ => n ≤ i⟩
theorem turn_list {P : Program} {w : World} {K : PySem.W.Frag} {tg : Expr} (a it : Addr) : Turn P w K tg (Itl K a) [it] it (fun i h => h.IsListIter it a i) where
  mem := by simp
  obj := fun i h st b hb => by
    have e : b = it := by simpa using hb
    subst e
    obtain ⟨o, e, c, d⟩ := st
    exact ⟨o, e, fun v z => by rw [d] at z; cases z⟩
  keep := fun i h h' st k => st.at fun o e => k it (by simp) o e
  item := by
    intro X hP hw hK hc i pins s σ H E I hf st hg
    subst hP hw hK
    obtain ⟨xs, x, hq, hx⟩ := hg
    obtain ⟨its, rv, p, hz⟩ := I.list hq
    obtain ⟨u, hu, ru⟩ := rv.get hx
    obtain ⟨f0, f1, f2, f3, f4, f5⟩ := hf it (by simp)
    refine wpAny_pyNext_list_item st p.isList (x := u) (by simpa using hu) fun h' st' sb => ?_
    have I1 : Inv X pins σ H { s with heap := h' } := I.turned (t' := s.toks) (fun b o hb e => (sb.2 b hb).trans e) f0 f1 f3 f4 f5
    obtain ⟨o, e, c, d⟩ := id st'
    exact ⟨u, rfl, go_of (s := { s with heap := h' }) e c d (by decide) ⟨x, H, I1, ru, ⟨rfl, fun ys hy => by rw [I.list_inj hy hq]; exact hx⟩, st', fun b hb => (hf b hb).1⟩⟩
  done := by
    intro X hP hw hK hc i pins s σ H E I hf st hg
    subst hP hw hK
    obtain ⟨xs, hq, hx⟩ := hg
    obtain ⟨its, rv, p, hz⟩ := I.list hq
    obtain ⟨f0, f1, f2, f3, f4, f5⟩ := hf it (by simp)
    have hl := rv.length
    exact wpAny_pyNext_list_end (I.ok.hd hc) st p.isList (by simp; omega) fun h' eb => ⟨rfl, I.turned (t' := s.toks) (fun b o hb e => eb b o hb e) f0 f1 f3 f4 f5⟩
  self := fun _ _ _ _ _ st h => wpAny_pyIter_listiter st h
theorem turn_range {P : Program} {w : World} {K : PySem.W.Frag} {tg : Expr} (it : Addr) (lo : Int) (n : Nat) : Turn P w K tg (Itr lo n) [it] it (fun i h => IsRangeIter h it (lo + (i : Nat) * 1) ((n : Int) - (i : Nat)) 1) where
  mem := by simp
  obj := fun i h st b hb => by
    have e : b = it := by simpa using hb
    subst e
    exact ⟨_, st, fun v z => by
      have z' : Data.fields _ = Data.cell v := z
      cases z'⟩
  keep := fun i h h' st k => k it (by simp) _ st
  item := by
    intro X hP hw hK hc i pins s σ H E I hf st hg
    subst hP hw hK
    obtain ⟨f0, f1, f2, f3, f4, f5⟩ := hf it (by simp)
    have W := Walks.range (prog := X.prog) (w := X.w) (I.ok.hd hc) it lo 1 n
    refine W.item i s _ _ hg st fun v h' tk hv st' kk => ?_
    obtain ⟨t, rfl⟩ := hv
    have I1 : Inv X pins σ H { s with heap := h', toks := tk } := I.turned (fun b o hb e => kk b o (by simpa using hb) e) f0 f1 f3 f4 f5
    refine ⟨_, rfl, go_of (s := { s with heap := h', toks := tk }) (n := "range_iterator") st' rfl rfl (by decide) ⟨.int (lo + i), H, I1, ⟨t, ?_⟩, ⟨rfl, rfl⟩, st', fun b hb => (hf b hb).1⟩⟩
    rw [Int.mul_one]
  done := by
    intro X hP hw hK hc i pins s σ H E I hf st hg
    subst hP hw hK
    obtain ⟨f0, f1, f2, f3, f4, f5⟩ := hf it (by simp)
    exact wpAny_pyNext_range_end (I.ok.hd hc) st (by have : n ≤ i := hg; omega) fun h' eb => ⟨rfl, I.turned (t' := s.toks) (fun b o hb e => eb b o hb e) f0 f1 f3 f4 f5⟩
  self := fun _ _ _ _ _ st h => wpAny_pyIter_rangeiter st h
end L2

namespace L2
open PySem PySem.Spec PyProof.Rows
section
variable {X : Cx} {tg : Expr}
def iList (K : PySem.W.Frag) (tl : TE) : TI := fun σ H R => tl σ H fun x H1 => ∃ a, x = .ref a ∧ (∃ xs, SqL K H1 a xs) ∧ R (Itl K a) H1
def iTup (K : PySem.W.Frag) (tl : TE) : TI := fun σ H R => tl σ H fun x H1 => ∃ a, x = .ref a ∧ (∃ xs, SqT K H1 a xs) ∧ R (Itt K a) H1
theorem pi_list {l : Expr} {tl : TE} (hl : PE X l tl) : PI X tg l (iList X.K tl) := by
  intro pins s σ H R I h
  refine thn (hl pins s σ H _ I h) fun v s1 ⟨x, H1, I1, r1, q1⟩ => ?_
  obtain ⟨a, e, ⟨xs, hq⟩, q⟩ := q1
  subst e
  cases r1
  obtain ⟨its, rv, p, hz⟩ := I1.list hq
  refine wpAny_pyIter_list p.isList ?_
  refine ⟨s1.heap.objs.size, [s1.heap.objs.size], _, _, H1, rfl, I1.kept (t' := s1.toks) fun b o e => Heap.get?_push_of_some _ e, turn_list a _, ⟨_, Heap.get?_push_size _ rfl, rfl, rfl⟩, fun b hb => ?_, q⟩
  have e : b = s1.heap.objs.size := by simpa using hb
  subst e
  exact I1.fpOk (Nat.le_refl _) (I1.hok.fresh (Nat.le_refl _))
/-- a range object just made, walked -/
theorem range_it {pins : List (Addr × Obj)} {σ : St} {H : Hp} {s : Shared} {R : It → Hp → Prop} {E : Value → Shared → Prop} {lo hi : Int} {t u v : Tok} {tk : Nat} (I : Inv X pins σ H s) (h1 : -(2 ^ 62) ≤ lo) (h2 : lo < 2 ^ 62) (h3 : -(2 ^ 62) ≤ hi) (h4 : hi < 2 ^ 62)
    (q : R (Itr lo (hi - lo).toNat) H) : wpAny (model X.prog X.w) X.A (pyIter (.ref s.heap.objs.size)) (PIE X pins σ tg R) E { s with heap := s.heap.push { cls := .type "range", data := .fields #[.int lo t, .int hi u, .int 1 v] }, toks := tk } := by
  refine wpAny_pyIter_range (IsRange.new ..) (small_one h1 h2 h3 h4) ?_
  have I1 : Inv X pins σ H { s with heap := s.heap.push { cls := .type "range", data := .fields #[.int lo t, .int hi u, .int 1 v] }, toks := tk } := I.kept fun b o e => Heap.get?_push_of_some _ e
  refine ⟨(s.heap.push { cls := .type "range", data := .fields #[.int lo t, .int hi u, .int 1 v] }).objs.size, [(s.heap.push { cls := .type "range", data := .fields #[.int lo t, .int hi u, .int 1 v] }).objs.size], _, _, H, rfl,
    I1.kept (t' := tk) fun b o e => Heap.get?_push_of_some _ e, turn_range _ lo (hi - lo).toNat, ?_, fun b hb => ?_, q⟩
  · have e1 : lo + ((0 : Nat) : Int) * 1 = lo := by simp
    have e2 : (((hi - lo).toNat : Nat) : Int) - ((0 : Nat) : Int) = Builtin.Range.rangeSize lo hi 1 := by rw [rangeSize_one]; split <;> omega
    show IsRangeIter _ _ (lo + ((0 : Nat) : Int) * 1) ((((hi - lo).toNat : Nat) : Int) - ((0 : Nat) : Int)) 1
    rw [e1, e2]
    exact Heap.get?_push_size _ rfl
  · have e : b = (s.heap.push { cls := .type "range", data := .fields #[.int lo t, .int hi u, .int 1 v] }).objs.size := by simpa using hb
    subst e
    exact I1.fpOk (Nat.le_refl _) (I1.hok.fresh (Nat.le_refl _))
def iRng1 (ta : TA) : TI := fun σ H R => ta σ H fun vs H1 => ∃ j : Int, vs = [.int j] ∧ -(2 ^ 62) ≤ j ∧ j < 2 ^ 62 ∧ R (Itr 0 j.toNat) H1
def iRng2 (ta : TA) : TI := fun σ H R => ta σ H fun vs H1 => ∃ i j : Int, vs = [.int i, .int j] ∧ (-(2 ^ 62) ≤ i ∧ i < 2 ^ 62 ∧ -(2 ^ 62) ≤ j ∧ j < 2 ^ 62) ∧ R (Itr i (j - i).toNat) H1
theorem pi_range1 {a : Expr} {ta : TA} {p pos : Pos} (hg : Gl X "range") (hm : X.mg "range" = none) (ha : PA X [a] ta) (hs : starEach [a] X.env = [(false, eval a X.env)] := by rfl) : PI X tg (.Call (.Name "range" p) [a] [] pos) (iRng1 ta) := by
  intro pins s σ H R I h
  refine Call_ (ld_blt I hg hm boot_range (PyProof.Rows.callWith_type1 (thn (ha pos pins s σ H _ I h) fun us s1 ⟨vs, H1, I1, r1, q1⟩ => ?_) hs rfl))
  obtain ⟨j, e, q1, q2, q⟩ := q1
  subst e
  cases r1 with
  | cons r rr =>
    cases rr
    obtain ⟨t, rfl⟩ := r
    exact call_range_1 (range_it I1 (by omega) (by omega) q1 q2 (by simpa using q))

/-! ### for -/
/-- W: the invariant by the turn and a measure; N: what the body is to reach -/
def tFor (wi : TI) (g : TG) (tb : TS) : TS := fun D σ H => wi σ H fun J H1 => ∃ W : Nat → Nat → St → Hp → Prop, (∃ m, W 0 m σ H1) ∧ ∀ i m σ H, W i m σ H →
  (J.stop i H ∧ D.nx σ H) ∨ (J.go i H ∧ ∃ N : St → Hp → Prop, (∀ σ' H', N σ' H' → ∃ m', m' < m ∧ W (i + 1) m' σ' H') ∧ ∀ x H', J.yld i H x H' → g x σ H' fun σ2 H2 => tb { D with nx := N, ct := N, bk := D.nx } σ2 H2)
/-- the records at fp as they stand -/
def pinsAt (fp : List Addr) (h : Heap) : List (Addr × Obj) := fp.filterMap fun b => (h.get? b).map fun o => (b, o)
theorem mem_pinsAt {fp : List Addr} {h : Heap} {b : Addr} {o : Obj} (hb : b ∈ fp) (e : h.get? b = some o) : (b, o) ∈ pinsAt fp h := List.mem_filterMap.mpr ⟨b, hb, by rw [e]; rfl⟩
theorem of_pinsAt {fp : List Addr} {h : Heap} {p : Addr × Obj} (hp : p ∈ pinsAt fp h) : p.1 ∈ fp ∧ h.get? p.1 = some p.2 := by
  obtain ⟨b, hb, e⟩ := List.mem_filterMap.mp hp
  cases q : h.get? b with
  | none => rw [q] at e; cases e
  | some o =>
    rw [q] at e
    have e' : (b, o) = p := Option.some.inj e
    subst e'
    exact ⟨hb, q⟩
theorem Inv.pinned {pins : List (Addr × Obj)} {σ : St} {H : Hp} {s : Shared} {fp : List Addr} (I : Inv X pins σ H s) (hf : ∀ b ∈ fp, FpOk X pins H b) (ho : ∀ b ∈ fp, ∃ o, s.heap.get? b = some o ∧ ∀ v, o.data ≠ .cell v) : Inv X (pins ++ pinsAt fp s.heap) σ H s :=
  I.pins_of fun p hp => (List.mem_append.mp hp).elim (fun z => I.pin p (List.mem_append_right _ z)) fun z => by
    obtain ⟨hb, e⟩ := of_pinsAt z
    obtain ⟨f0, f1, f2, _⟩ := hf p.1 hb
    obtain ⟨o, e', d⟩ := ho p.1 hb
    rw [e] at e'; cases e'
    exact ⟨e, f0, f1, f2, d⟩
theorem Inv.unpinned {pins pl : List (Addr × Obj)} {σ : St} {H : Hp} {s : Shared} (I : Inv X (pins ++ pl) σ H s) : Inv X pins σ H s := I.pins_of fun p hp => I.pin p (List.mem_append_right _ (List.mem_append_left _ hp))
theorem ps_for {iter : Expr} {body : List Stmt} {wi : TI} {g : TG} {tb : TS} {pos : Pos} (hp : PassesOwn (model X.prog X.w) X.A X.env X.xe) (hc : X.calm = true) (hi : PI X tg iter wi) (hg : PG X tg g) (hb : PSs X body tb)
    (hs : ∀ x, foldedSetIterable iter X.env x = pure x := by intro _; rfl) : PS X (.For tg iter body [] pos) (tFor wi g tb) := by
  intro pins s σ H D I h
  refine wpAny_For (thn (hi pins s σ H _ I h) fun v s1 h1 => thn h1 fun itv s2 h2 => ?_) hs
  obtain ⟨it, fp, tn, J, H2, e, I2, T, st2, f2, W, ⟨m0, w0⟩, turn⟩ := h2
  subst e
  -- what stays true of the iterator's objects through the loop
  have stat : ∀ {H' : Hp}, (∀ b ∈ fp, H' b = none) → ∀ b ∈ fp, FpOk X pins H' b := fun hn b hb => ⟨hn b hb, (f2 b hb).2⟩
  refine codeAny_forLoop_any (fun n s' => ∃ i σ' H', Inv X pins σ' H' s' ∧ tn i s'.heap ∧ (∀ b ∈ fp, H' b = none) ∧ W i n σ' H') ?_ m0 ⟨0, σ, H2, I2, st2, fun b hb => (f2 b hb).1, w0⟩
  rintro n s3 ⟨i, σ3, H3, I3, st3, fr3, w3⟩
  rcases turn i n σ3 H3 w3 with ⟨stop, qn⟩ | ⟨go, N, hN, step⟩
  · refine wpAny_passesOwn hp (thn (T.done X rfl rfl rfl hc i pins s3 σ3 H3 X.xe I3 (stat fr3) st3 stop) fun r s4 ⟨hr, I4⟩ => ?_)
    subst hr
    exact wpAny_execs_nil ⟨σ3, H3, I4, qn⟩
  · refine wpAny_passesOwn hp (thn (T.item X rfl rfl rfl hc i pins s3 σ3 H3 X.xe I3 (stat fr3) st3 go) fun r s4 ⟨u, hr, h4⟩ => ?_)
    subst hr
    refine wpAny_passesOwn hp (thn h4 fun _ s5 ⟨x, H5, I5, r5, y5, st5, fr5⟩ => ?_)
    have I5' := I5.pinned (stat fr5) (T.obj _ _ st5)
    refine wpAny_passesOwn hp (thn (hg _ s5 σ3 H5 x u _ I5' r5 (step x H5 y5)) fun _ s6 ⟨σ6, H6, I6, q6⟩ => ?_)
    refine wpAny_passesOwn hp (thn (hb _ s6 σ6 H6 _ I6 q6) fun f s7 q7 => ?_)
    have again : ∀ {σ7 : St} {H7 : Hp}, Inv X (pins ++ pinsAt fp s5.heap) σ7 H7 s7 → N σ7 H7 → ∃ m, m < n ∧ ∃ i σ' H', Inv X pins σ' H' s7 ∧ tn i s7.heap ∧ (∀ b ∈ fp, H' b = none) ∧ W i m σ' H' := fun {σ7 H7} I7 n7 => by
      obtain ⟨m', hm, w7⟩ := hN σ7 H7 n7
      refine ⟨m', hm, i + 1, σ7, H7, I7.unpinned, T.keep _ _ _ st5 fun b hb o e => (I7.pin (b, o) (List.mem_append_right _ (List.mem_append_right _ (mem_pinsAt hb e)))).1, fun b hb => ?_, w7⟩
      obtain ⟨o, e, d⟩ := T.obj _ _ st5 b hb
      exact (I7.pin (b, o) (List.mem_append_right _ (List.mem_append_right _ (mem_pinsAt hb e)))).2.1
    cases f with
    | next => obtain ⟨σ7, H7, I7, n7⟩ := q7; exact again I7 n7
    | cont => obtain ⟨σ7, H7, I7, n7⟩ := q7; exact again I7 n7
    | brk => obtain ⟨σ7, H7, I7, q7⟩ := q7; exact ⟨σ7, H7, I7.unpinned, q7⟩
    | ret v => obtain ⟨x7, σ7, H7, I7, r7, q7⟩ := q7; exact ⟨x7, σ7, H7, I7.unpinned, r7, q7⟩
end

/-! ### the forms one uses -/
/-- over a list that the body leaves as it is -/
theorem for_list {K : PySem.W.Frag} {a : Addr} {xs : List V} {g : TG} {tb : TS} {D : Ends} {σ : St} {H : Hp} (Pv : Nat → St → Hp → Prop) (h0 : Pv 0 σ H) (hl : ∀ i σ H, i ≤ xs.length → Pv i σ H → SqL K H a xs)
    (hs : ∀ i x σ H, xs[i]? = some x → Pv i σ H → g x σ H fun σ2 H2 => tb { D with nx := Pv (i + 1), ct := Pv (i + 1), bk := D.nx } σ2 H2) (hd : ∀ σ H, Pv xs.length σ H → D.nx σ H) :
    ∃ W : Nat → Nat → St → Hp → Prop, (∃ m, W 0 m σ H) ∧ ∀ i m σ H, W i m σ H →
      ((Itl K a).stop i H ∧ D.nx σ H) ∨ ((Itl K a).go i H ∧ ∃ N : St → Hp → Prop, (∀ σ' H', N σ' H' → ∃ m', m' < m ∧ W (i + 1) m' σ' H') ∧ ∀ x H', (Itl K a).yld i H x H' → g x σ H' fun σ2 H2 => tb { D with nx := N, ct := N, bk := D.nx } σ2 H2) := by
  refine ⟨fun i m σ H => m = xs.length - i ∧ i ≤ xs.length ∧ Pv i σ H, ⟨xs.length, by simp, Nat.zero_le _, h0⟩, ?_⟩
  rintro i m σ H ⟨rfl, hi, p⟩
  have q := hl i σ H hi p
  by_cases hlt : i < xs.length
  · refine .inr ⟨⟨xs, xs[i], q, by simp [hlt]⟩, Pv (i + 1), fun σ' H' p' => ⟨xs.length - (i + 1), by omega, rfl, hlt, p'⟩, fun x H' y => ?_⟩
    obtain ⟨e, y⟩ := y
    subst e
    exact hs i x σ _ (y xs q) p
  · have e : i = xs.length := by omega
    subst e
    exact .inl ⟨⟨xs, q, Nat.le_refl _⟩, hd σ H p⟩
theorem for_range {lo : Int} {n : Nat} {g : TG} {tb : TS} {D : Ends} {σ : St} {H : Hp} (Pv : Nat → St → Hp → Prop) (h0 : Pv 0 σ H)
    (hs : ∀ i σ H, i < n → Pv i σ H → g (.int (lo + i)) σ H fun σ2 H2 => tb { D with nx := Pv (i + 1), ct := Pv (i + 1), bk := D.nx } σ2 H2) (hd : ∀ σ H, Pv n σ H → D.nx σ H) :
    ∃ W : Nat → Nat → St → Hp → Prop, (∃ m, W 0 m σ H) ∧ ∀ i m σ H, W i m σ H →
      ((Itr lo n).stop i H ∧ D.nx σ H) ∨ ((Itr lo n).go i H ∧ ∃ N : St → Hp → Prop, (∀ σ' H', N σ' H' → ∃ m', m' < m ∧ W (i + 1) m' σ' H') ∧ ∀ x H', (Itr lo n).yld i H x H' → g x σ H' fun σ2 H2 => tb { D with nx := N, ct := N, bk := D.nx } σ2 H2) := by
  refine ⟨fun i m σ H => m = n - i ∧ i ≤ n ∧ Pv i σ H, ⟨n, by simp, Nat.zero_le _, h0⟩, ?_⟩
  rintro i m σ H ⟨rfl, hi, p⟩
  by_cases hlt : i < n
  · refine .inr ⟨hlt, Pv (i + 1), fun σ' H' p' => ⟨n - (i + 1), by omega, rfl, hlt, p'⟩, fun x H' y => ?_⟩
    obtain ⟨e, y⟩ := y
    subst e y
    exact hs i σ _ hlt p
  · have e : i = n := by omega
    subst e
    exact .inl ⟨Nat.le_refl _, hd σ H p⟩
end L2

namespace L2
open PySem PySem.Spec PyProof.Rows

abbrev R2 := V → V → Hp → VK → Prop
/-- a two-place operation on values: f is binaryOp op, inplaceOp op or compareOp op -/
def OpR (X : Cx) (f : Value → Value → Sem Value) (r : R2) : Prop :=
  ∀ (pins : List (Addr × Obj)) (s : Shared) (σ : St) (H : Hp) (x y : V) (v u : Value) (Q : VK), Inv X pins σ H s → RelV x v → RelV y u → r x y H Q →
    wpAny (model X.prog X.w) X.A (f v u) (EP X pins σ Q) X.xe s
/-- a one-place operation -/
def UnR (X : Cx) (f : Value → Sem Value) (r : V → Hp → VK → Prop) : Prop :=
  ∀ (pins : List (Addr × Obj)) (s : Shared) (σ : St) (H : Hp) (x : V) (v : Value) (Q : VK), Inv X pins σ H s → RelV x v → r x H Q →
    wpAny (model X.prog X.w) X.A (f v) (EP X pins σ Q) X.xe s
/-- a call of a value that is known (a builtin, a type) with values -/
def CallR (X : Cx) (f : Value) (r : List V → Hp → VK → Prop) : Prop :=
  ∀ (pins : List (Addr × Obj)) (s : Shared) (σ : St) (H : Hp) (xs : List V) (us : List Value) (Q : VK), Inv X pins σ H s → Vals xs us → r xs H Q →
    wpAny (model X.prog X.w) X.A (call f us) (EP X pins σ Q) X.xe s
/-- a value's truth -/
def TruR (X : Cx) (r : V → Hp → (Bool → Hp → Prop) → Prop) : Prop :=
  ∀ (pins : List (Addr × Obj)) (s : Shared) (σ : St) (H : Hp) (x : V) (v : Value) (Q : Bool → Hp → Prop), Inv X pins σ H s → RelV x v → r x H Q →
    wpAny (model X.prog X.w) X.A (truthy v) (TP X pins σ Q) X.xe s

def tOp (r : R2) (ta tb : TE) : TE := fun σ H Q => ta σ H fun x H1 => tb σ H1 fun y H2 => r x y H2 Q
def tUn (r : V → Hp → VK → Prop) (ta : TE) : TE := fun σ H Q => ta σ H fun x H1 => r x H1 Q
/-- ints in, under C, and a value out -/
def rI (C : Int → Int → Prop) (g : Int → Int → V) : R2 := fun x y H Q => ∃ i j, x = .int i ∧ y = .int j ∧ C i j ∧ Q (g i j) H
def rI0 (g : Int → Int → V) : R2 := fun x y H Q => ∃ i j, x = .int i ∧ y = .int j ∧ Q (g i j) H
def rU (g : Int → V) : V → Hp → VK → Prop := fun x H Q => ∃ i, x = .int i ∧ Q (g i) H

section
variable {X : Cx} {a b c : Expr} {ta tb tc : TE} {pos : Pos}

theorem binT (ha : PE X a ta) (hb : PE X b tb) {pins : List (Addr × Obj)} {s : Shared} {σ : St} {H : Hp} {R : V → V → Hp → Prop} (I : Inv X pins σ H s)
    (h : ta σ H fun x H1 => tb σ H1 fun y H2 => R x y H2) {Q : Value → Shared → Prop} {f : Value → Value → Sem Value}
    (hf : ∀ v u s2 x y H2, Inv X pins σ H2 s2 → RelV x v → RelV y u → R x y H2 → wpAny (model X.prog X.w) X.A (f v u) Q X.xe s2) :
    wpAny (model X.prog X.w) X.A (eval a X.env) (fun v s₁ => wpAny (model X.prog X.w) X.A (eval b X.env) (fun u s₂ => wpAny (model X.prog X.w) X.A (f v u) Q X.xe s₂) X.xe s₁) X.xe s := by
  refine thn (ha pins s σ H _ I h) fun v s1 ⟨x, H1, I1, r1, q1⟩ => ?_
  refine thn (hb pins s1 σ H1 _ I1 q1) fun u s2 ⟨y, H2, I2, r2, q2⟩ => ?_
  exact hf v u s2 x y H2 I2 r1 r2 q2

theorem pe_op {op : Operator} {r : R2} (ho : OpR X (binaryOp op) r) (ha : PE X a ta) (hb : PE X b tb) : PE X (.BinOp a op b pos) (tOp r ta tb) := by
  intro pins s σ H Q I h
  exact wpAny_BinOp (binT ha hb I h fun v u s2 x y H2 I2 rx ry q => ho pins s2 σ H2 x y v u Q I2 rx ry q)
theorem pe_un {op : UnaryOp} {r : V → Hp → VK → Prop} (ho : UnR X (unaryOp op) r) (ha : PE X a ta) : PE X (.UnaryOp op a pos) (tUn r ta) := by
  intro pins s σ H Q I h
  exact UnaryOp_ (thn (ha pins s σ H _ I h) fun v s1 ⟨x, H1, I1, r1, q1⟩ => ho pins s1 σ H1 x v Q I1 r1 q1)

/-! ### ints -/
theorem opI {f : Value → Value → Sem Value} {C : Int → Int → Prop} {g : Int → Int → Int}
    (rule : ∀ (i j : Int) (t u : Tok) (s : Shared) (Q : Value → Shared → Prop) (E : Value → Shared → Prop), C i j → Q (.int (g i j) s.toks) { s with toks := s.toks + 1 } → wpAny (model X.prog X.w) X.A (f (.int i t) (.int j u)) Q E s) :
    OpR X f (rI C fun i j => .int (g i j)) := by
  intro pins s σ H x y v u Q I rx ry h
  obtain ⟨i, j, rfl, rfl, hc, q⟩ := h
  obtain ⟨t, rfl⟩ := rx
  obtain ⟨t', rfl⟩ := ry
  exact rule i j t t' s _ _ hc ⟨.int (g i j), H, I.tok _, ⟨_, rfl⟩, q⟩
theorem opI0 {f : Value → Value → Sem Value} {g : Int → Int → Int}
    (rule : ∀ (i j : Int) (t u : Tok) (s : Shared) (Q : Value → Shared → Prop) (E : Value → Shared → Prop), Q (.int (g i j) s.toks) { s with toks := s.toks + 1 } → wpAny (model X.prog X.w) X.A (f (.int i t) (.int j u)) Q E s) :
    OpR X f (rI0 fun i j => .int (g i j)) := by
  intro pins s σ H x y v u Q I rx ry h
  obtain ⟨i, j, rfl, rfl, q⟩ := h
  obtain ⟨t, rfl⟩ := rx
  obtain ⟨t', rfl⟩ := ry
  exact rule i j t t' s _ _ ⟨.int (g i j), H, I.tok _, ⟨_, rfl⟩, q⟩
theorem opB0 {f : Value → Value → Sem Value} {g : Int → Int → Bool}
    (rule : ∀ (i j : Int) (t u : Tok) (s : Shared) (Q : Value → Shared → Prop) (E : Value → Shared → Prop), Q (.bool (g i j)) s → wpAny (model X.prog X.w) X.A (f (.int i t) (.int j u)) Q E s) :
    OpR X f (rI0 fun i j => .bl (g i j)) := by
  intro pins s σ H x y v u Q I rx ry h
  obtain ⟨i, j, rfl, rfl, q⟩ := h
  obtain ⟨t, rfl⟩ := rx
  obtain ⟨t', rfl⟩ := ry
  exact rule i j t t' s _ _ ⟨.bl (g i j), H, I, rfl, q⟩

def CDiv (i j : Int) : Prop := 0 < j ∧ j < 1073741824
def CDivN (i j : Int) : Prop := j ≠ 0 ∧ j.natAbs < 1073741824
def CPow (i j : Int) : Prop := 0 ≤ j ∧ j ≤ 1000000 ∧ i.natAbs < 2 ^ 64
def CMul (i j : Int) : Prop := (-(2 ^ 64) < i ∧ i < 2 ^ 64) ∨ (-(2 ^ 64) < j ∧ j < 2 ^ 64)
theorem CMul.ok {i j : Int} (h : CMul i j) : IntMulOk i j := by
  rcases h with ⟨h1, h2⟩ | ⟨h1, h2⟩
  · exact .of_left (intBits_le_64 h1 h2)
  · exact .of_right (intBits_le_64 h1 h2)

theorem op_add : OpR X (binaryOp .Add) (rI0 fun i j => .int (i + j)) := opI0 fun _ _ _ _ _ _ _ q => add_int q
theorem op_sub : OpR X (binaryOp .Sub) (rI0 fun i j => .int (i - j)) := opI0 fun _ _ _ _ _ _ _ q => sub_int q
theorem op_mul : OpR X (binaryOp .Mult) (rI CMul fun i j => .int (i * j)) := opI fun _ _ _ _ _ _ _ hc q => mul_int q hc.ok
/-- // by a positive divisor -/
theorem op_fdiv : OpR X (binaryOp .FloorDiv) (rI CDiv fun i j => .int (i / j)) := opI fun i j _ _ _ _ _ hc q => by
  have h1 : (0 : Int) < j := hc.1
  have h2 : j < 1073741824 := hc.2
  exact floordiv_int (by omega) (by rw [Int.fdiv_eq_ediv_of_nonneg i (by omega)]; exact q) (.inl (PyProof.noPylong_small (by omega)))
/-- % by a positive divisor of any size -/
theorem op_mod : OpR X (binaryOp .Mod) (rI (fun _ j => 0 < j) fun i j => .int (i % j)) := opI fun i j _ _ _ _ _ hc q => by
  have h1 : (0 : Int) < j := hc
  exact mod_int' (by omega) (by rw [Int.fmod_eq_emod_of_nonneg i (by omega)]; exact q)


theorem unI {f : Value → Sem Value} {g : Int → Int}
    (rule : ∀ (i : Int) (t : Tok) (s : Shared) (Q : Value → Shared → Prop) (E : Value → Shared → Prop), Q (.int (g i) s.toks) { s with toks := s.toks + 1 } → wpAny (model X.prog X.w) X.A (f (.int i t)) Q E s) :
    UnR X f (rU fun i => .int (g i)) := by
  intro pins s σ H x v Q I rx h
  obtain ⟨i, rfl, q⟩ := h
  obtain ⟨t, rfl⟩ := rx
  exact rule i t s _ _ ⟨.int (g i), H, I.tok _, ⟨_, rfl⟩, q⟩
theorem un_neg : UnR X (unaryOp .USub) (rU fun i => .int (-i)) := unI fun _ _ _ _ _ q => neg_int q

/-! ### bools among ints: n += (a < b) -/
end

/-! ### comparisons -/
/-- the scalars that == tells apart as data does -/
def scal : V → V → Bool
  | .non, .non => true | .non, .int _ => true | .int _, .non => true | .non, .bl _ => true | .bl _, .non => true | .non, .str _ => true | .str _, .non => true
  | .int _, .int _ => true | .bl _, .bl _ => true | .str _, .str _ => true | .byt _, .byt _ => true
  | .int _, .str _ => true | .str _, .int _ => true | .bl _, .str _ => true | .str _, .bl _ => true
  | _, _ => false
def rEq : R2 := fun x y H Q => scal x y = true ∧ Q (.bl (decide (x = y))) H
def rNe : R2 := fun x y H Q => scal x y = true ∧ Q (.bl (!decide (x = y))) H

theorem dec_int {i j : Int} : decide (V.int i = V.int j) = (i == j) := by
  rw [Bool.eq_iff_iff]
  simp
theorem dec_bl {i j : Bool} : decide (V.bl i = V.bl j) = (i == j) := by
  rw [Bool.eq_iff_iff]
  simp
theorem dec_str {i j : Str} : decide (V.str i = V.str j) = (i == j) := by
  rw [Bool.eq_iff_iff]
  simp
theorem dec_byt {i j : Array UInt8} : decide (V.byt i = V.byt j) = (i.toList == j.toList) := by
  rw [Bool.eq_iff_iff]
  cases i
  cases j
  simp

section
variable {X : Cx} {a b c : Expr} {ta tb tc : TE} {pos : Pos}
theorem fin_bl {pins : List (Addr × Obj)} {σ : St} {H : Hp} {s : Shared} {Q : VK} {k k' : Bool} (I : Inv X pins σ H s) (q : Q (.bl k) H) (e : k = k') : EP X pins σ Q (.bool k') s := by
  subst e
  exact ⟨.bl k, H, I, rfl, q⟩
theorem op_eq : OpR X (compareOp .Eq) rEq := by
  intro pins s σ H x y v u Q I rx ry h
  obtain ⟨hs, q⟩ := h
  cases x with
  | non =>
    cases rx
    cases y with
    | non => cases ry; exact PySem.EqNone.eq_none_none (fin_bl I q (by simp))
    | bl j => cases ry; exact PySem.EqNone.eq_none_bool (fin_bl I q (by simp))
    | int j => obtain ⟨t', rfl⟩ := ry; exact PySem.EqNone.eq_none_int (fin_bl I q (by simp))
    | str j => obtain ⟨t', rfl⟩ := ry; exact PySem.EqNone.eq_none_str (fin_bl I q (by simp))
    | _ => exact absurd (show false = true from hs) Bool.false_ne_true
  | bl i =>
    cases rx
    cases y with
    | non => cases ry; exact PySem.EqNone.eq_bool_none (fin_bl I q (by simp))
    | bl j => cases ry; exact eq_bool (fin_bl I q dec_bl)
    | str j => obtain ⟨t', rfl⟩ := ry; exact PySem.EqMixed.eq_bool_str (fin_bl I q (by simp))
    | _ => exact absurd (show false = true from hs) Bool.false_ne_true
  | int i =>
    obtain ⟨t, rfl⟩ := rx
    cases y with
    | non => cases ry; exact PySem.EqNone.eq_int_none (fin_bl I q (by simp))
    | int j => obtain ⟨t', rfl⟩ := ry; exact eq_int (fin_bl I q dec_int)
    | str j => obtain ⟨t', rfl⟩ := ry; exact PySem.EqMixed.eq_int_str (fin_bl I q (by simp))
    | _ => exact absurd (show false = true from hs) Bool.false_ne_true
  | str i =>
    obtain ⟨t, rfl⟩ := rx
    cases y with
    | non => cases ry; exact PySem.EqNone.eq_str_none (fin_bl I q (by simp))
    | bl j => cases ry; exact PySem.EqMixed.eq_str_bool (fin_bl I q (by simp))
    | int j => obtain ⟨t', rfl⟩ := ry; exact PySem.EqMixed.eq_str_int (fin_bl I q (by simp))
    | str j => obtain ⟨t', rfl⟩ := ry; exact eq_str (fin_bl I q dec_str)
    | _ => exact absurd (show false = true from hs) Bool.false_ne_true
  | byt i =>
    obtain ⟨t, rfl⟩ := rx
    cases y with
    | byt j => obtain ⟨t', rfl⟩ := ry; exact PySem.W.eq_bytes (fin_bl I q dec_byt)
    | _ => exact absurd (show false = true from hs) Bool.false_ne_true
  | _ => cases y <;> exact absurd (show false = true from hs) Bool.false_ne_true
theorem op_ne : OpR X (compareOp .NotEq) rNe := by
  intro pins s σ H x y v u Q I rx ry h
  obtain ⟨hs, q⟩ := h
  cases x with
  | non =>
    cases rx
    cases y with
    | non => cases ry; exact PySem.EqNone.ne_none_none (fin_bl I q (by simp))
    | bl j => cases ry; exact PySem.EqNone.ne_none_bool (fin_bl I q (by simp))
    | int j => obtain ⟨t', rfl⟩ := ry; exact PySem.EqNone.ne_none_int (fin_bl I q (by simp))
    | str j => obtain ⟨t', rfl⟩ := ry; exact PySem.EqNone.ne_none_str (fin_bl I q (by simp))
    | _ => exact absurd (show false = true from hs) Bool.false_ne_true
  | bl i =>
    cases rx
    cases y with
    | non => cases ry; exact PySem.EqNone.ne_bool_none (fin_bl I q (by simp))
    | bl j => cases ry; exact ne_bool (fin_bl I q (congrArg not dec_bl))
    | str j => obtain ⟨t', rfl⟩ := ry; exact PySem.EqMixed.ne_bool_str (fin_bl I q (by simp))
    | _ => exact absurd (show false = true from hs) Bool.false_ne_true
  | int i =>
    obtain ⟨t, rfl⟩ := rx
    cases y with
    | non => cases ry; exact PySem.EqNone.ne_int_none (fin_bl I q (by simp))
    | int j => obtain ⟨t', rfl⟩ := ry; exact ne_int (fin_bl I q (congrArg not dec_int))
    | str j => obtain ⟨t', rfl⟩ := ry; exact PySem.EqMixed.ne_int_str (fin_bl I q (by simp))
    | _ => exact absurd (show false = true from hs) Bool.false_ne_true
  | str i =>
    obtain ⟨t, rfl⟩ := rx
    cases y with
    | non => cases ry; exact PySem.EqNone.ne_str_none (fin_bl I q (by simp))
    | bl j => cases ry; exact PySem.EqMixed.ne_str_bool (fin_bl I q (by simp))
    | int j => obtain ⟨t', rfl⟩ := ry; exact PySem.EqMixed.ne_str_int (fin_bl I q (by simp))
    | str j => obtain ⟨t', rfl⟩ := ry; exact ne_str (fin_bl I q (congrArg not dec_str))
    | _ => exact absurd (show false = true from hs) Bool.false_ne_true
  | byt i =>
    obtain ⟨t, rfl⟩ := rx
    cases y with
    | byt j => obtain ⟨t', rfl⟩ := ry; exact PySem.W.ne_bytes (fin_bl I q (congrArg not dec_byt))
    | _ => exact absurd (show false = true from hs) Bool.false_ne_true
  | _ => cases y <;> exact absurd (show false = true from hs) Bool.false_ne_true

theorem op_lt : OpR X (compareOp .Lt) (rI0 fun i j => .bl (decide (i < j))) := opB0 fun _ _ _ _ _ _ _ q => lt_int q
theorem op_le : OpR X (compareOp .LtE) (rI0 fun i j => .bl (decide (i ≤ j))) := opB0 fun _ _ _ _ _ _ _ q => le_int q
theorem op_gt : OpR X (compareOp .Gt) (rI0 fun i j => .bl (decide (j < i))) := opB0 fun _ _ _ _ _ _ _ q => gt_int q
theorem op_ge : OpR X (compareOp .GtE) (rI0 fun i j => .bl (decide (j ≤ i))) := opB0 fun _ _ _ _ _ _ _ q => ge_int q

/-- is None, is not None: the right side a value none -/
theorem op_isN : OpR X (compareOp .Is) (fun x y H Q => y = .non ∧ Q (.bl (decide (x = .non))) H) := by
  intro pins s σ H x y v u Q I rx ry h
  obtain ⟨rfl, q⟩ := h
  cases ry
  refine is_none_gen (fin_bl I q ?_)
  cases x <;> first
    | (cases rx; rfl)
    | (obtain ⟨t, rfl⟩ := rx; rfl)
theorem op_notN : OpR X (compareOp .IsNot) (fun x y H Q => y = .non ∧ Q (.bl (!decide (x = .non))) H) := by
  intro pins s σ H x y v u Q I rx ry h
  obtain ⟨rfl, q⟩ := h
  cases ry
  refine isnot_none_gen (fin_bl I q ?_)
  cases x <;> first
    | (cases rx; rfl)
    | (obtain ⟨t, rfl⟩ := rx; rfl)

/-- is, is not of two objects that are tracked lists or instances -/
def isObj : HO → Bool
  | .lst _ => true
  | .ins _ _ _ => true
  | _ => false

/-- two rules for one operation: by cases -/
theorem OpR.or {f : Value → Value → Sem Value} {r r' : R2} (h : OpR X f r) (h' : OpR X f r') : OpR X f (fun x y H Q => r x y H Q ∨ r' x y H Q) := by
  intro pins s σ H x y v u Q I rx ry q
  rcases q with q | q
  · exact h pins s σ H x y v u Q I rx ry q
  · exact h' pins s σ H x y v u Q I rx ry q

theorem nomark (b : Expr) {op : CmpOp} (h : op ≠ .In := by decide) (h2 : op ≠ .NotIn := by decide) : behindInMarks op b = false := by
  have e1 : (op == CmpOp.In) = false := by cases op <;> first | rfl | exact absurd rfl h
  have e2 : (op == CmpOp.NotIn) = false := by cases op <;> first | rfl | exact absurd rfl h2
  cases b <;> simp [behindInMarks, e1, e2]
/-- a reading of a value as a test -/
def tTest (t : TE) : TT := fun σ H Q => t σ H fun x H' => ∃ k, x = .bl k ∧ Q k H'
theorem pt_cmpR {op : CmpOp} {r : R2} (ho : OpR X (compareOp op) r) (ha : PE X a ta) (hb : PE X b tb) (hm : behindInMarks op b = false) : PT X (.Compare a [op] [b] pos) (tTest (tOp r ta tb)) := by
  intro pins s σ H Q I h
  refine wpAny_isTrue_Compare1 (thn (ha pins s σ H _ I h) fun v s1 ⟨x, H1, I1, r1, q1⟩ => thn (hb pins s1 σ H1 _ I1 q1) fun u s2 ⟨y, H2, I2, r2, q2⟩ =>
    thn (ho pins s2 σ H2 x y v u _ I2 r1 r2 q2) fun c s3 ⟨z, H3, I3, r3, k, e, q3⟩ => ?_) hm
  subst e
  cases r3
  exact wpAny_truthy_bool ⟨H3, I3, q3⟩
/-- a op1 b op2 c -/
def tChain (r r' : R2) (ta tb tc : TE) : TE := fun σ H Q => ta σ H fun x H1 => tb σ H1 fun y H2 => r x y H2 fun z H3 => ∃ k, z = .bl k ∧
  (if k = true then tc σ H3 fun w' H4 => r' y w' H4 Q else Q (.bl false) H3)
theorem pt_chain {op op' : CmpOp} {r r' : R2} (ho : OpR X (compareOp op) r) (ho' : OpR X (compareOp op') r') (ha : PE X a ta) (hb : PE X b tb) (hc : PE X c tc)
    (hm : lastMarks [op, op'] [b, c] = false := by with_unfolding_all rfl) : PT X (.Compare a [op, op'] [b, c] pos) (tTest (tChain r r' ta tb tc)) := by
  intro pins s σ H Q I h
  refine isTrue_chain (thn (ha pins s σ H _ I h) fun v s1 ⟨x, H1, I1, r1, q1⟩ => test_link (thn (hb pins s1 σ H1 _ I1 q1) fun u s2 ⟨y, H2, I2, r2, q2⟩ =>
    thn (ho pins s2 σ H2 x y v u _ I2 r1 r2 q2) fun d s3 ⟨z, H3, I3, r3, k, e, q3⟩ => ?_)) hm
  subst e
  cases r3
  refine wpAny_truthy_bool ?_
  cases k with
  | false =>
    obtain ⟨k', e', q'⟩ := q3
    cases e'
    exact ite_ff ⟨H3, I3, q'⟩
  | true =>
    refine ite_tt (test_last (thn (hc pins s3 σ H3 _ I3 q3) fun w' s4 ⟨z', H4, I4, r4, q4⟩ => thn (ho' pins s4 σ H4 y z' u w' _ I4 r2 r4 q4) fun d' s5 ⟨z2, H5, I5, r5, k2, e2, q5⟩ => ?_))
    subst e2
    cases r5
    exact wpAny_truthy_bool ⟨H5, I5, q5⟩

/-! ### truth -/
/-- a value's truth by the abstract heap -/
def TruV (K : PySem.W.Frag) (x : V) (H : Hp) (k : Bool) : Prop :=
  match x with
  | .non => k = false
  | .bl b => k = b
  | .int i => k = (i != 0)
  | .str y => y.length ≤ sizeLine ∧ k = ((y.length : Int) != 0)
  | .byt y => y.size ≤ sizeLine ∧ k = ((y.size : Int) != 0)
  | .ref p => (∃ xs, SqL K H p xs ∧ k = !xs.isEmpty) ∨ (∃ xs, SqT K H p xs ∧ k = !xs.isEmpty) ∨ ∃ kvs, H p = some (.dK kvs) ∧ k = !kvs.isEmpty
  | _ => False
theorem line63 : (sizeLine : Nat) < 2 ^ 63 := by rw [sizeLine_eq]; decide

/-! ### strs and bytes -/

def PlainIxT (b : Expr) : Prop := ∀ o i, subscripted b false o i = operate [o, i] (getItem o i)

/-! ### scalar builtins, by CallR -/
theorem vals1 {x : V} {us : List Value} (r : Vals [x] us) : ∃ u, us = [u] ∧ RelV x u := by
  cases r with
  | cons r1 r2 => cases r2; exact ⟨_, rfl, r1⟩
theorem vals2 {x y : V} {us : List Value} (r : Vals [x, y] us) : ∃ u w', us = [u, w'] ∧ RelV x u ∧ RelV y w' := by
  cases r with
  | cons r1 r2 =>
    cases r2 with
    | cons r3 r4 => cases r4; exact ⟨_, _, rfl, r1, r3⟩
theorem call_min2 (hc : X.calm = true) : CallR X (.builtin "min") (fun xs H Q => ∃ i j, xs = [.int i, .int j] ∧ Q (.int (if j < i then j else i)) H) := by
  intro pins s σ H xs us Q I r h
  obtain ⟨i, j, rfl, q⟩ := h
  obtain ⟨u, w', rfl, ⟨t, rfl⟩, ⟨t', rfl⟩⟩ := vals2 r
  refine min_two_ints (I.ok.hd hc) fun h' tk k => ⟨_, H, I.kept k, ?_, q⟩
  by_cases hj : j < i
  · rw [if_pos hj, if_pos hj]; exact ⟨_, rfl⟩
  · rw [if_neg hj, if_neg hj]; exact ⟨_, rfl⟩
/-- len of a str, a bytes, a list, a tuple -/
def LenV (K : PySem.W.Frag) (x : V) (H : Hp) (n : Nat) : Prop :=
  match x with
  | .str y => y.length ≤ sizeLine ∧ n = y.length
  | .byt y => y.size ≤ sizeLine ∧ n = y.size
  | .ref p => (∃ xs, SqL K H p xs ∧ n = xs.length) ∨ ∃ xs, SqT K H p xs ∧ n = xs.length
  | _ => False
end
end L2

namespace L2
open PySem PySem.Spec PyProof.Rows

/-! ### an instance, its attributes a map -/
structure ObjM (h : Heap) (x dx C : Addr) (mA : Str → Option Value) : Prop where
  obj : h.get? x = some (PySem.W.instObj C dx)
  ns : h.Ns1 dx mA
  ne : dx ≠ x

theorem lookIn_ns {h : Heap} {dx : Addr} {mA : Str → Option Value} (n : h.Ns1 dx mA) : ∃ od, h.get? dx = some od ∧ ∀ name, PySem.W.lookIn name od = some (mA name) := by
  obtain ⟨o, es, ep, ho, hd, hk, _, hm⟩ := n
  refine ⟨o, ho, fun name => ?_⟩
  have e := hm name
  unfold nsFind findBy at e
  rw [← Array.find?_toList] at e
  unfold PySem.W.lookIn
  rw [hd]
  dsimp only
  split
  · rename_i y q
    rw [q] at e
    exact congrArg some e
  · rename_i q
    rw [q] at e
    have a : es.toList.any (·.refKey) = false := by
      rw [List.any_eq_false]
      intro y hy
      obtain ⟨z, t, hkey⟩ := hk y (Array.mem_toList_iff.mp hy)
      simp [DictEntry.refKey, hkey]
    have a' : ¬ es.toList.any (·.refKey) = true := by rw [a]; exact Bool.false_ne_true
    rw [if_neg a']
    exact congrArg some e

theorem ObjM.look {h : Heap} {x dx C : Addr} {mA : Str → Option Value} (I : ObjM h x dx C mA) : ∃ od, PySem.W.InstAt h x (PySem.W.instObj C dx) C (some od) ∧ ∀ name, PySem.W.lookIn name od = some (mA name) :=
  let ⟨od, ho, hl⟩ := lookIn_ns I.ns
  ⟨od, ⟨I.obj, rfl, rfl, ho⟩, hl⟩

section
variable {prog : Program} {w : World} {A : Around} {E : Value → Shared → Prop} {s : Shared} {K : PySem.W.Frag} {x dx C f : Addr} {mA : Str → Option Value} {name : Str} {v : Value}

theorem get_map {expr : Bool} {Q : Value → Shared → Prop} (X : K.In s.heap) (I : ObjM s.heap x dx C mA) (hg : PySem.W.plainGet K C name = true) (hh : PySem.W.hasDictIn K C = true)
    (ha : PySem.W.findIn K (.ref C) name = some none) (hv : mA name = some v) (hv' : PySem.W.handedIn v = true) (h : Q v { s with toks := s.toks + 1 }) :
    wpAny (model prog w) A (getAttr (.ref x) name expr) Q E s := by
  obtain ⟨od, J, hl⟩ := I.look
  exact PySem.W.get_value X J (PySem.W.plainGet_of hg).1 (PySem.W.findObj_own hh ha rfl (by rw [hl, hv])) hv' h


theorem get_meth {pl : Sem Bool} {Q : Value × List Value → Shared → Prop} (X : K.In s.heap) (I : ObjM s.heap x dx C mA) (hg : PySem.W.plainGet K C name = true)
    (hf : PySem.W.findIn K (.ref C) name = some (some (.ref f))) (ht : PySem.W.isFn K (.ref f) = true) (hv : mA name = none) (h : Q (.ref f, [.ref x]) s) :
    wpAny (model prog w) A (getMethod (.ref x) name pl) Q E s := by
  obtain ⟨od, J, hl⟩ := I.look
  exact PySem.W.method_fn X J (PySem.W.plainGet_of hg).1 (PySem.W.plainGet_of hg).2 hf (beq_iff_eq.mp ht) (by show (PySem.W.lookIn name od).map (·.isSome) = some false; rw [hl, hv]; rfl) h

theorem set_map {ns : List Str} {Q : Unit → Shared → Prop} (X : K.In s.heap) (I : ObjM s.heap x dx C mA)
    (hs : PySem.W.findIn K (.ref C) "__setattr__" = some (some (.builtin "object.__setattr__"))) (hp : PySem.W.plainOver K C = true) (ht : PySem.W.takerIn K C name = some none) (hh : PySem.W.hasDictIn K C = true)
    (hw : PySem.Within mA ns) (hsz : ns.length ≤ sizeLine)
    (h : ∀ h', ObjM h' x dx C (fun y => if y = name then some v else mA y) → Heap.SameBut dx s.heap h' → Q () { s with heap := h', toks := s.toks + 2 }) :
    wpAny (model prog w) A (setAttr (.ref x) name v) Q E s := by
  obtain ⟨od, J, hl⟩ := I.look
  refine PySem.W.set_plain X J hs (PySem.W.osa_open (s := { s with toks := s.toks + 1 }) (r := none) X J hp ht fun b => ?_)
  obtain ⟨cd, hc, hd'⟩ := PySem.W.any_some hh
  have hx : s.heap.get? x = some ⟨.ref C, some dx, .plain, #[]⟩ := I.obj
  refine wpAny_bind (wpAny_pure (wpAny_bind (wpAny_bind (wpAny_loadPart hx (wpAny_bind (PySem.W.Looks.here (s := { s with toks := s.toks + 1 }) (PySem.W.looks_clsIn X hc) ?_))))))
  rw [hd']
  refine wpAny_pure (a := some dx) (wpAny_bind (wpAny_pure (wpAny_bind ?_)))
  refine wpAny_nsSet1 (s := { s with toks := s.toks + 1 }) I.ns fun h' hn2 hs2 => ?_
  obtain ⟨oD, esD, epD, hoD, hdD, hcD⟩ := hn2.count (PySem.Within.cons name v hw)
  refine wpAny_bind (wpAny_lookBehind hoD (by rw [hdD]; exact pastItsLine_dict (Nat.le_trans hcD (by rw [List.length_cons]; omega))) ?_)
  exact wpAny_pure (h _ ⟨(hs2.2 _ (Ne.symm I.ne)).trans I.obj, hn2, I.ne⟩ hs2)

/-- C(..): the dict at the heap's end, the instance behind it; then its __init__ -/
theorem make_map {R : Result → Shared → Prop} {vs : List Value} {kw : List (Str × Value)} (X : K.In s.heap) (hm : PySem.W.makesIn K C = true)
    (hi : PySem.W.findIn K (.ref C) "__init__" = some (some (.ref f))) (hf : PySem.W.typeIn K (.ref f) = some (.type "function"))
    (h : codeAny (model prog w) (A.under (.builtin "type.__call__" ⟨.ref C :: vs, kw⟩)) (.call (.ref f) ⟨.ref (s.heap.objs.size + 1) :: vs, kw⟩) (PySem.W.InitBack (s.heap.objs.size + 1) R)
      { s with heap := (s.heap.push PySem.W.emptyDict).push (PySem.W.instObj C s.heap.objs.size) }) :
    codeAny (model prog w) A (.call (.ref C) ⟨vs, kw⟩) R s := by
  obtain ⟨hh, g, d, t, os⟩ := s
  exact PySem.W.make_core (PySem.W.makes_of X hm) (PySem.W.looks_findIn X hi) (fun self => PySem.W.bind_fn X self hf) (.inl rfl) h
end

/-! ### the attributes as a list of pairs -/
def putF (f : Str) (v : V) : List (Str × V) → List (Str × V)
  | [] => [(f, v)]
  | (g, x) :: r => if g = f then (g, v) :: r else (g, x) :: putF f v r
theorem lookup_putF (f g : Str) (v : V) : ∀ fs : List (Str × V), (putF f v fs).lookup g = if g = f then some v else fs.lookup g
  | [] => by
    show List.lookup g [(f, v)] = _
    by_cases h : g = f
    · have hb : (g == f) = true := beq_iff_eq.mpr h
      simp only [List.lookup, hb, if_pos h]
    · have hb : (g == f) = false := beq_eq_false_iff_ne.mpr h
      simp only [List.lookup, hb, if_neg h]
  | (k, x) :: r => by
    have ih := lookup_putF f g v r
    rw [show putF f v ((k, x) :: r) = (if k = f then (k, v) :: r else (k, x) :: putF f v r) from rfl]
    by_cases hk : k = f
    · rw [if_pos hk]
      by_cases h : g = k
      · have hb : (g == k) = true := beq_iff_eq.mpr h
        simp only [List.lookup, hb, if_pos (h.trans hk)]
      · have hb : (g == k) = false := beq_eq_false_iff_ne.mpr h
        simp only [List.lookup, hb, if_neg (fun e : g = f => h (e.trans hk.symm))]
    · rw [if_neg hk]
      by_cases h : g = k
      · have hb : (g == k) = true := beq_iff_eq.mpr h
        simp only [List.lookup, hb, if_neg (fun e : g = f => hk (h.symm.trans e))]
      · have hb : (g == k) = false := beq_eq_false_iff_ne.mpr h
        simp only [List.lookup, hb]
        exact ih
theorem keys_putF (f : Str) (v : V) : ∀ fs : List (Str × V), f ∈ (putF f v fs).map (·.1) ∧ ∀ g, g ∈ fs.map (·.1) → g ∈ (putF f v fs).map (·.1)
  | [] => ⟨by simp [putF], fun g h => by simp at h⟩
  | (k, x) :: r => by
    obtain ⟨i1, i2⟩ := keys_putF f v r
    rw [show putF f v ((k, x) :: r) = (if k = f then (k, v) :: r else (k, x) :: putF f v r) from rfl]
    by_cases hk : k = f
    · rw [if_pos hk]
      subst hk
      exact ⟨by simp, fun g h => by simpa using h⟩
    · rw [if_neg hk]
      refine ⟨?_, fun g h => ?_⟩
      · rw [List.map_cons]
        exact List.mem_cons_of_mem _ i1
      · rw [List.map_cons] at h ⊢
        rcases List.mem_cons.mp h with e | e
        · exact List.mem_cons.mpr (.inl e)
        · exact List.mem_cons_of_mem _ (i2 g e)
theorem length_putF (f : Str) (v : V) : ∀ fs : List (Str × V), (putF f v fs).length ≤ fs.length + 1
  | [] => by simp [putF]
  | (k, x) :: r => by
    have ih := length_putF f v r
    rw [show putF f v ((k, x) :: r) = (if k = f then (k, v) :: r else (k, x) :: putF f v r) from rfl]
    by_cases hk : k = f
    · rw [if_pos hk, List.length_cons, List.length_cons]; omega
    · rw [if_neg hk, List.length_cons, List.length_cons]; omega

theorem RelO.some_of {v : V} {o : Option Value} (r : RelO (some v) o) : ∃ u, o = some u ∧ RelV v u := by
  cases o with
  | none => exact (show False from r).elim
  | some u => exact ⟨u, rfl, r⟩
theorem RelO.none_of {o : Option Value} (r : RelO none o) : o = none := by
  cases o with
  | none => rfl
  | some u => exact (show False from r).elim
theorem handed_of {v : V} {u : Value} (r : RelV v u) : PySem.W.handedIn u = true := by
  cases v with
  | non => cases (show u = Value.none from r); rfl
  | bl b => cases (show u = Value.bool b from r); rfl
  | int i => obtain ⟨t, e⟩ := (show ∃ t, u = Value.int i t from r); cases e; rfl
  | str x => obtain ⟨t, e⟩ := (show ∃ t, u = Value.str x t from r); cases e; rfl
  | byt b => obtain ⟨t, e⟩ := (show ∃ t, u = Value.bytes b t from r); cases e; rfl
  | flt b => obtain ⟨t, e⟩ := (show ∃ t, u = Value.float b t from r); cases e; rfl
  | ref a => cases (show u = Value.ref a from r); rfl
  | ty n => cases (show u = Value.type n from r); rfl

section
variable {P : Program} {w : World} {H H' : Hp} {h h' : Heap} {a C dx : Addr} {fs fs' : List (Str × V)}
theorem ins_get (hok : HOk P w H h) (e : H a = some (.ins C dx fs)) : ∃ mA, ObjM h a dx C mA ∧ (∀ f, RelO (fs.lookup f) (mA f)) ∧ PySem.Within mA (fs.map (·.1)) ∧ fs.length ≤ 1000 ∧ H dx = some (.own a) := by
  obtain ⟨d, z, ne, ob, mA, n, r, q⟩ := (show ObjOk P w H h a (.ins C dx fs) from hok a _ e)
  exact ⟨mA, ⟨ob, n, ne⟩, r, q, z, d⟩
end

/-! ### what of the text a class must have -/
structure Cls (K : PySem.W.Frag) (C : Addr) : Prop where
  pg : PySem.W.plainGet K C Str.empty = true
  hd : PySem.W.hasDictIn K C = true
  po : PySem.W.plainOver K C = true
  sa : PySem.W.findIn K (.ref C) "__setattr__" = some (some (.builtin "object.__setattr__"))
theorem Cls.get {K : PySem.W.Frag} {C : Addr} (c : Cls K C) (f : Str) : PySem.W.plainGet K C f = true := c.pg
/-- no class of it has the name -/
def NoAttr (K : PySem.W.Frag) (C : Addr) (f : Str) : Prop := PySem.W.findIn K (.ref C) f = some none
theorem NoAttr.taker {K : PySem.W.Frag} {C : Addr} {f : Str} (n : NoAttr K C f) : PySem.W.takerIn K C f = some none := by
  unfold PySem.W.takerIn
  rw [show PySem.W.findIn K (.ref C) f = some none from n]
  rfl
/-- a constant of the class -/
structure Con (K : PySem.W.Frag) (C : Addr) (f : Str) (v : V) (u : Value) : Prop where
  at_ : PySem.W.findIn K (.ref C) f = some (some u)
  rel : RelV v u
  get : PySem.W.specialIn K u "__get__" = some none
  cp : PySem.W.copiedNames.contains f = false
/-- a method: a plain def of the class or of one above it -/
structure Meth (K : PySem.W.Frag) (C : Addr) (m : Str) (f : Addr) : Prop where
  at_ : PySem.W.findIn K (.ref C) m = some (some (.ref f))
  fn : PySem.W.isFn K (.ref f) = true
  kp : PySem.W.keepIn K (.ref f) = true

section
variable {X : Cx} {pins : List (Addr × Obj)} {σ : St} {H : Hp} {s : Shared} {a C dx : Addr} {fs : List (Str × V)} {f : Str} {v : V} {A : Around} {E : Value → Shared → Prop}

theorem getattr_ok {b : Bool} {Q : Value → Shared → Prop} (I : Inv X pins σ H s) (e : H a = some (.ins C dx fs)) (c : Cls X.K C) (n : NoAttr X.K C f) (l : fs.lookup f = some v)
    (h : ∀ u s', Inv X pins σ H s' → RelV v u → Q u s') : wpAny (model X.prog X.w) A (getAttr (.ref a) f b) Q E s := by
  obtain ⟨mA, O, r, _, _, _⟩ := ins_get I.hok e
  obtain ⟨u, hu, ru⟩ := RelO.some_of (v := v) (o := mA f) (by rw [← l]; exact r f)
  exact get_map I.kIn O (c.get f) c.hd n hu (handed_of ru) (h u _ (I.tok _) ru)


theorem getmeth_ok {m : Str} {g : Addr} {pl : Sem Bool} {Q : Value × List Value → Shared → Prop} (I : Inv X pins σ H s) (e : H a = some (.ins C dx fs)) (c : Cls X.K C) (k : Meth X.K C m g) (l : fs.lookup m = none)
    (h : Q (.ref g, [.ref a]) s) : wpAny (model X.prog X.w) A (getMethod (.ref a) m pl) Q E s := by
  obtain ⟨mA, O, r, _, _, _⟩ := ins_get I.hok e
  have hn : mA m = none := RelO.none_of (by rw [← l]; exact r m)
  exact get_meth I.kIn O (c.get m) k.at_ k.fn hn h

theorem setattr_ok {y : V} {u : Value} {Q : Unit → Shared → Prop} (I : Inv X pins σ H s) (e : H a = some (.ins C dx fs)) (c : Cls X.K C) (n : NoAttr X.K C f) (hl : fs.length < 1000) (ry : RelV y u)
    (h : ∀ s', Inv X pins σ (upd H a (.ins C dx (putF f y fs))) s' → Q () s') : wpAny (model X.prog X.w) A (setAttr (.ref a) f u) Q E s := by
  obtain ⟨mA, O, r, wi, _, ho⟩ := ins_get I.hok e
  have hz : (fs.map (·.1)).length ≤ sizeLine := by rw [List.length_map, sizeLine_eq]; omega
  refine set_map I.kIn O c.sa c.po n.taker c.hd wi hz fun h' O' sb => h _ ?_
  have hd : ∃ o, h'.get? dx = some o := let ⟨o, _, _, e', _⟩ := O'.ns; ⟨o, e'⟩
  refine I.write (x := a) (e := dx) (by rw [e]; exact True.intro) (.inr ho) (fun b q hb z => (sb.2 b hb).trans z) hd ?_
  refine ⟨by rw [upd_ne O.ne]; exact ho, ?_, O.ne, O'.obj, _, O'.ns, fun g => ?_, fun g hg => ?_⟩
  · have := length_putF f y fs; omega
  · show RelO ((putF f y fs).lookup g) (if g = f then some u else mA g)
    rw [lookup_putF]
    by_cases q : g = f
    · rw [if_pos q, if_pos q]; exact ry
    · rw [if_neg q, if_neg q]; exact r g
  · by_cases q : g = f
    · rw [q]; exact (keys_putF f y fs).1
    · refine (keys_putF f y fs).2 g (wi g fun z => hg ?_)
      show (if g = f then some u else mA g) = none
      rw [if_neg q]; exact z

/-- a new instance, tracked, without attributes -/
theorem Inv.made (I : Inv X pins σ H s) : Inv X pins σ (upd (upd H s.heap.objs.size (.own (s.heap.objs.size + 1))) (s.heap.objs.size + 1) (.ins C s.heap.objs.size []))
    { s with heap := (s.heap.push PySem.W.emptyDict).push (PySem.W.instObj C s.heap.objs.size) } := by
  have e1 : (s.heap.push PySem.W.emptyDict).get? s.heap.objs.size = some PySem.W.emptyDict := Heap.get?_push_size s.heap rfl
  have e2 : ((s.heap.push PySem.W.emptyDict).push (PySem.W.instObj C s.heap.objs.size)).get? (s.heap.objs.size + 1) = some (PySem.W.instObj C s.heap.objs.size) := by
    have := Heap.get?_push_size (s.heap.push PySem.W.emptyDict) (o := PySem.W.instObj C s.heap.objs.size) rfl
    rwa [Heap.size_push] at this
  have e3 : (s.heap.push PySem.W.emptyDict).Ns s.heap.objs.size (fun _ => none) := ⟨PySem.W.emptyDict, #[], _, e1, rfl, (fun e he => absurd he (by simp)), fun _ => rfl⟩
  have I1 := I.laid (a := s.heap.objs.size) (o := .own (s.heap.objs.size + 1)) (h' := s.heap.push PySem.W.emptyDict) (t' := s.toks) (fun b u q => Heap.get?_push_of_some _ q) (Nat.le_refl _) ⟨_, e1⟩
  refine I1.laid (a := s.heap.objs.size + 1) (o := .ins C s.heap.objs.size []) (t' := s.toks) (fun b u q => Heap.get?_push_of_some _ q) (Nat.le_of_eq (Heap.size_push _ _)) ?_
  have ne : s.heap.objs.size ≠ s.heap.objs.size + 1 := Nat.ne_of_lt (Nat.lt_succ_self _)
  refine ⟨by rw [upd_ne ne, upd_same], Nat.zero_le _, ne, e2, fun _ => none, (Heap.Ns1.of_empty e3).at fun o q => Heap.get?_push_of_some _ q, fun _ => True.intro, fun y hy => absurd rfl hy⟩

/-- e.f where nothing but the object is asked: through attributeBase (super) and the last hold -/
theorem attr_of {prog : Program} {w : World} {env : Env} {e : Expr} {f : Str} {pos : Pos} {s : Shared} {Q : Value → Shared → Prop} (hb : attributeBase e f env (eval e env) = eval e env)
    (h : wpAny (model prog w) A (eval e env) (fun o s₁ => wpAny (model prog w) A (getAttr o f true) Q E s₁) E s) : wpAny (model prog w) A (eval (.Attribute e f pos) env) Q E s :=
  Attribute_any_ h (by rw [arm_eval_Attribute, hb])
end

/-! ### readings and rules -/
/-- e.f, an attribute of the instance -/
def tFld (K : PySem.W.Frag) (ta : TE) (f : Str) : TE := fun σ H Q => ta σ H fun x H1 => ∃ a C dx fs v, x = .ref a ∧ H1 a = some (.ins C dx fs) ∧ Cls K C ∧ NoAttr K C f ∧ fs.lookup f = some v ∧ Q v H1
/-- e.f, a constant of the class -/
def tCon (K : PySem.W.Frag) (ta : TE) (f : Str) : TE := fun σ H Q => ta σ H fun x H1 => ∃ a C dx fs v u, x = .ref a ∧ H1 a = some (.ins C dx fs) ∧ Cls K C ∧ Con K C f v u ∧ fs.lookup f = none ∧ Q v H1
/-- e.f = value -/
def sFld (K : PySem.W.Frag) (ta tv : TE) (f : Str) : TS := fun D σ H => tv σ H fun y H1 => ta σ H1 fun x H2 => ∃ a C dx fs, x = .ref a ∧ H2 a = some (.ins C dx fs) ∧ Cls K C ∧ NoAttr K C f ∧ fs.length < 1000 ∧
  D.nx σ (upd H2 a (.ins C dx (putF f y fs)))
/-- an augmented operator on two values -/
def InOp (X : Cx) (op : Operator) (rd : V → V → Hp → VK → Prop) : Prop :=
  ∀ (pins : List (Addr × Obj)) (s : Shared) (σ : St) (H : Hp) (x y : V) (u v : Value) (Q : VK), Inv X pins σ H s → RelV x u → RelV y v → rd x y H Q → wpAny (model X.prog X.w) X.A (inplaceOp op u v) (EP X pins σ Q) X.xe s
/-- e.f op= value -/
def sFldAug (K : PySem.W.Frag) (ta tv : TE) (rd : V → V → Hp → VK → Prop) (f : Str) : TS := fun D σ H => ta σ H fun x H1 => ∃ a C dx fs v, x = .ref a ∧ H1 a = some (.ins C dx fs) ∧ Cls K C ∧ NoAttr K C f ∧ fs.lookup f = some v ∧
  tv σ H1 fun y H2 => rd v y H2 fun z H3 => ∃ dx' fs', H3 a = some (.ins C dx' fs') ∧ fs'.length < 1000 ∧ D.nx σ (upd H3 a (.ins C dx' (putF f z fs')))

section
variable {X : Cx} {o e value : Expr} {f : Str} {pos pos' tpos : Pos} {ta tv : TE}
theorem pe_fld (he : PE X e ta) (hb : attributeBase e f X.env (eval e X.env) = eval e X.env) : PE X (.Attribute e f pos) (tFld X.K ta f) := by
  intro pins s σ H Q I h
  refine attr_of hb (thn (he pins s σ H _ I h) fun u s1 ⟨x, H1, I1, rx, a, C, dx, fs, v, ex, ea, c, n, l, q⟩ => ?_)
  subst ex
  obtain rfl : u = Value.ref a := rx
  exact getattr_ok I1 ea c n l fun u' s2 I2 ru => ⟨v, H1, I2, ru, q⟩
theorem ps_fld (ha : PE X o ta) (hv : PE X value tv) (hs : swapsWith value (some (.Attribute o f pos')) pos.line X.env = pure false) : PS X (.Assign [.Attribute o f pos'] value pos) (sFld X.K ta tv f) := by
  intro pins s σ H D I h
  refine plainObj_wpAny_Assign_Attribute (thn (hv pins s σ H _ I h) fun u s1 ⟨y, H1, I1, ry, q⟩ => thn (ha pins s1 σ H1 _ I1 q) fun ov s2 ⟨x, H2, I2, rx, a, C, dx, fs, ex, ea, c, n, l, q2⟩ => ?_) hs
  subst ex
  obtain rfl : ov = Value.ref a := rx
  exact setattr_ok I2 ea c n l ry fun s3 I3 => ⟨σ, _, I3, q2⟩
def rAdd : V → V → Hp → VK → Prop := fun x y H Q => ∃ i j, x = .int i ∧ y = .int j ∧ Q (.int (i + j)) H
def rSub : V → V → Hp → VK → Prop := fun x y H Q => ∃ i j, x = .int i ∧ y = .int j ∧ Q (.int (i - j)) H

/-- what is between an instance and its method: the tree of a method call -/
theorem methcall_of {pl : Sem Bool} {m : Str} {apos : Pos} {args : List Expr} {pins : List (Addr × Obj)} {s : Shared} {σ : St} {H : Hp} {Q : Value → Shared → Prop} {te : TE} (he : PE X e te) (I : Inv X pins σ H s)
    (h : te σ H fun x H1 => ∃ a C dx fs g, x = .ref a ∧ H1 a = some (.ins C dx fs) ∧ Cls X.K C ∧ Meth X.K C m g ∧ fs.lookup m = none ∧
      ∀ s1, Inv X pins σ H1 s1 → wpAny (model X.prog X.w) X.A (callWith pos (.ref g) [.ref a] (backTo pos (starEach args X.env)) (backToKw pos (keywordEach [] X.env))) Q X.xe s1)
    (ht : eval (.Call (.Attribute e m apos) args [] pos) X.env = (do
      let ov ← eval e X.env
      standAt apos.atName
      let (f, first) ← holding [ov] (getMethod ov m pl)
      callWith pos f first (backTo pos (starEach args X.env)) (backToKw pos (keywordEach [] X.env)))) :
    wpAny (model X.prog X.w) X.A (eval (.Call (.Attribute e m apos) args [] pos) X.env) Q X.xe s := by
  refine PySem.W.methodCall_KW (pl := pl) (thn (he pins s σ H _ I h) fun u s1 ⟨x, H1, I1, rx, a, C, dx, fs, g, ex, ea, c, k, l, q⟩ => ?_) ht
  subst ex
  obtain rfl : u = Value.ref a := rx
  exact getmeth_ok I1 ea c k l (q s1 I1)
end

/-! ### isinstance -/
section
variable {X : Cx} {pins : List (Addr × Obj)} {σ : St} {H : Hp} {s : Shared} {A : Around} {E : Value → Shared → Prop} {Q : Value → Shared → Prop} {c : Value} {b : Bool}
/-- the type of a value, as the fragment's deciders take it; for an instance its class -/
inductive TyOf (K : PySem.W.Frag) (H : Hp) : V → Value → Prop where
  | non : TyOf K H .non (.type "NoneType")
  | bl (x : Bool) : TyOf K H (.bl x) (.type "bool")
  | int (i : Int) : TyOf K H (.int i) (.type "int")
  | str (x : Str) : TyOf K H (.str x) (.type "str")
  | flt (x : UInt64) : TyOf K H (.flt x) (.type "float")
  | lst {a : Addr} {xs : List V} (e : H a = some (.lst xs)) : TyOf K H (.ref a) (.type "list")
  | frz {a : Addr} {o : Obj} {xs : List V} (e : H a = some (.frz o (.lst xs))) : TyOf K H (.ref a) (.type "list")
  | tup {a : Addr} {xs : List V} (e : H a = some (.tup xs)) : TyOf K H (.ref a) (.type "tuple")
  | dK {a : Addr} {kvs : List (Key × V)} (e : H a = some (.dK kvs)) : TyOf K H (.ref a) (.type "dict")
  | dT {a : Addr} {kvs : List (List Key × V)} (e : H a = some (.dT kvs)) : TyOf K H (.ref a) (.type "dict")
  | ins {a C dx : Addr} {fs : List (Str × V)} (e : H a = some (.ins C dx fs)) (cl : Cls K C) (ha : PySem.W.findIn K (.ref C) "__class__" = some (some (.builtin "object.__class__")))
      (hn : PySem.W.specialIn K (.builtin "object.__class__") "__get__" = some (some (.builtin "getset_descriptor.__get__"))) (htk : PySem.W.takesIn K (.builtin "object.__class__") = some true)
      (hm : PySem.W.mroIn K C (.type "object") = some true) : TyOf K H (.ref a) (.ref C)
end
end L2

namespace L2
open PySem PySem.Spec PyProof.Rows

/-! ### room -/
structure Room (k : Nat) (A : Around) : Prop where
  hd : A.handled = none
  dp : A.depth + 3 * k + 5 < recursionLimit
  un : A.units + 16 * k + 200 < cLine
theorem Room.mono {j k : Nat} {A : Around} (r : Room k A) (h : j ≤ k) : Room j A := ⟨r.hd, by have := r.dp; omega, by have := r.un; omega⟩
theorem Room.deeper {k : Nat} {A : Around} (r : Room (k + 1) A) (env : Env) : Room k (A.deeper env) :=
  ⟨r.hd, by have := r.dp; show A.depth + 1 + 3 * k + 5 < _; omega, by have := r.un; show A.units + 3 + 16 * k + 200 < _; omega⟩
theorem Room.in1 {k : Nat} {A : Around} (r : Room (k + 1) A) : Room k A.in1 :=
  ⟨r.hd, by have := r.dp; show A.depth + 3 * k + 5 < _; omega, by have := r.un; show A.units + 1 + 16 * k + 200 < _; omega⟩
theorem make_depth {A : Around} {C : Addr} {us : List Value} {kw : List (Str × Value)} : (A.under (.builtin "type.__call__" ⟨.ref C :: us, kw⟩)).depth = A.depth + 1 := by
  first | rfl | simp [Around.under, Code.weight, Code.isCreation, Code.isGuard, Code.isCaller, Code.frames, Code.isFrame, guardIds]
theorem make_units {A : Around} {C : Addr} {us : List Value} {kw : List (Str × Value)} : (A.under (.builtin "type.__call__" ⟨.ref C :: us, kw⟩)).units = A.units + 1 := by
  first | rfl | simp [Around.under, Code.cUnits, Code.frames, Code.isFrame]
theorem Room.make {k : Nat} {A : Around} (r : Room (k + 1) A) (C : Addr) (us : List Value) (kw : List (Str × Value)) : Room k (A.under (.builtin "type.__call__" ⟨.ref C :: us, kw⟩)) :=
  ⟨r.hd, by have := r.dp; rw [make_depth]; omega, by have := r.un; rw [make_units]; omega⟩
theorem Room.depth {k : Nat} {A : Around} (r : Room k A) : A.depth < recursionLimit := by have := r.dp; omega
theorem Room.units {k : Nat} {A : Around} (r : Room k A) : A.units + 64 < cLine := by have := r.un; omega

/-! ### argument lists and displays -/
def tNil : TA := fun _ H Q => Q [] H
def tCons (ta : TE) (tr : TA) : TA := fun σ H Q => ta σ H fun x H1 => tr σ H1 fun xs H2 => Q (x :: xs) H2
section
variable {X : Cx} {e : Expr} {es : List Expr} {te : TE} {t : TA} {pos : Pos}
theorem pa_nil : PA X [] tNil := fun _ _ _ _ H Q I h => Calls.spliced_nil ⟨[], H, I, .nil, h⟩
theorem pa_cons (ha : PE X e te) (hr : PA X es t) (hs : starEach (e :: es) X.env = (false, eval e X.env) :: starEach es X.env := by rfl) : PA X (e :: es) (tCons te t) := by
  intro pos pins s σ H Q I h
  rw [hs]
  show wpAny _ _ (spliced ((false, eval e X.env) :: backTo pos (starEach es X.env))) _ _ s
  refine Calls.spliced_cons (thn (ha pins s σ H _ I h) fun u s1 ⟨x, H1, I1, r1, q1⟩ => ?_)
  exact thn (hr pos pins s1 σ H1 _ I1 q1) fun us s2 ⟨xs, H2, I2, r2, q2⟩ => ⟨x :: xs, H2, I2, .cons r1 r2, q2⟩

/-- a tuple, a list of written items -/
def tTup (t : TA) : TE := fun σ H Q => t σ H fun xs H1 => xs.length ≤ sizeLine ∧ ∀ p, H1 p = none → Q (.ref p) (upd H1 p (.tup xs))
def tLst (t : TA) : TE := fun σ H Q => t σ H fun xs H1 => xs.length ≤ sizeLine ∧ ∀ p, H1 p = none → Q (.ref p) (upd H1 p (.lst xs))
theorem pe_tup {x1} (h : PA X es t) : PE X (.Tuple es x1 pos) (tTup t) := by
  intro pins s σ H Q I hq
  refine wpAny_Tuple_spliced (thn (h pos pins s σ H _ I hq) fun us s1 ⟨xs, H1, I1, r, z, q⟩ => ⟨by rw [← r.length]; exact z, ?_⟩)
  have hf : H1 s1.heap.objs.size = none := I1.hok.fresh (Nat.le_refl _)
  refine ⟨.ref s1.heap.objs.size, upd H1 s1.heap.objs.size (.tup xs), I1.laid (t' := s1.toks) (fun b u e => Heap.get?_push_of_some _ e) (Nat.le_refl _) ?_, rfl, q _ hf⟩
  exact ⟨z, us, r, ⟨_, Heap.get?_push_size _ rfl, rfl, _, rfl⟩⟩
theorem pe_lst (h : PA X es t) : PE X (.List es pos) (tLst t) := by
  intro pins s σ H Q I hq
  refine wpAny_List_spliced (thn (h pos pins s σ H _ I hq) fun us s1 ⟨xs, H1, I1, r, z, q⟩ => ⟨by rw [← r.length]; exact z, ?_⟩)
  have hf : H1 s1.heap.objs.size = none := I1.hok.fresh (Nat.le_refl _)
  refine ⟨.ref s1.heap.objs.size, upd H1 s1.heap.objs.size (.lst xs), I1.laid (t' := s1.toks) (fun b u e => Heap.get?_push_of_some _ e) (Nat.le_refl _) ?_, rfl, q _ hf⟩
  exact ⟨z, us, 0, r, Heap.get?_push_size _ rfl⟩
end

/-! ### what a def promises -/
/-- a def's promise: the bound arguments in the parameters' order, the heap, the wanted end, the wanted exception -/
abbrev Sp := List V → Hp → VK → XK → Prop
/-- how an exception lies behind a call (file 08 gives it): the callers' frames, abstract heap and state ahead of the call, the wish, the exception, the state -/
abbrev CXT := List Env → Hp → Shared → XK → Value → Shared → Prop

/-- the state at a call -/
structure Env0 (P : Program) (w : World) (K : PySem.W.Frag) (mg : Str → Option Value) (base : Heap) (A : Around) (outer : List Env) (s : Shared) (H : Hp) : Prop where
  frames : A.frames = some outer
  mod : Mod K mg base
  bs : ∀ b o, base.get? b = some o → s.heap.get? b = some o ∧ H b = none
  bsz : base.objs.size ≤ s.heap.objs.size
  funs : s.heap.FunFrames base outer
  frf : ∀ b ∈ frs outer, H b = none
  hok : HOk P w H s.heap
  bare : AllBare s.gens
/-- a call's end -/
def CE (outer : List Env) (P : Program) (w : World) (H : Hp) (s : Shared) (Q : VK) (u : Value) (s' : Shared) : Prop :=
  ∃ v H', s'.os = s.os ∧ AllBare s'.gens ∧ Un (frs outer) [] H H' s.heap s'.heap ∧ HOk P w H' s'.heap ∧ RelV v u ∧ Q v H'
def CR (CX : CXT) (outer : List Env) (P : Program) (w : World) (H : Hp) (s : Shared) (Q : VK) (E : XK) (r : Result) (s' : Shared) : Prop :=
  match r with
  | .ok (.ret u) => CE outer P w H s Q u s'
  | .ok _ => False
  | .error e => CX outer H s E e s'
structure FnOk (P : Program) (w : World) (K : PySem.W.Frag) (mg : Str → Option Value) (base : Heap) (CX : CXT) (k : Nat) (f : Addr) (fd : FuncData) (ps : List Str) (sp : Sp) : Prop where
  len : ∀ vs H Q E, sp vs H Q E → vs.length = ps.length
  run : ∀ (A : Around) (outer : List Env) (s : Shared) (H : Hp) (args : Args) (us : List Value) (vs : List V) (Q : VK) (E : XK), Room k A → Env0 P w K mg base A outer s H → BindsTo s fd args (ps.zip us) → Vals vs us → sp vs H Q E →
    codeAny (model P w) A (.call (.ref f) args) (CR CX outer P w H s Q E) s
theorem FnOk.mono {P : Program} {w : World} {K : PySem.W.Frag} {mg : Str → Option Value} {base : Heap} {CX : CXT} {j k : Nat} {f : Addr} {fd : FuncData} {ps : List Str} {sp : Sp} (F : FnOk P w K mg base CX j f fd ps sp) (h : j ≤ k) :
    FnOk P w K mg base CX k f fd ps sp := ⟨F.len, fun A outer s H args us vs Q E hr => F.run A outer s H args us vs Q E (hr.mono h)⟩
/-- a weaker promise -/
theorem FnOk.imp {P : Program} {w : World} {K : PySem.W.Frag} {mg : Str → Option Value} {base : Heap} {CX : CXT} {k : Nat} {f : Addr} {fd : FuncData} {ps : List Str} {sp sp' : Sp} (F : FnOk P w K mg base CX k f fd ps sp)
    (h : ∀ vs H Q E, sp' vs H Q E → sp vs H Q E) : FnOk P w K mg base CX k f fd ps sp' :=
  ⟨fun vs H Q E q => F.len vs H Q E (h _ _ _ _ q), fun A outer s H args us vs Q E hr he hb hv hs => F.run A outer s H args us vs Q E hr he hb hv (h _ _ _ _ hs)⟩

theorem Env0.make {P : Program} {w : World} {K : PySem.W.Frag} {mg : Str → Option Value} {base : Heap} {A : Around} {outer : List Env} {s : Shared} {H : Hp} (e : Env0 P w K mg base A outer s H) (C : Addr) (us : List Value) (kw : List (Str × Value)) :
    Env0 P w K mg base (A.under (.builtin "type.__call__" ⟨.ref C :: us, kw⟩)) outer s H := ⟨by first | exact e.frames | (simpa [Around.under, Code.envs, Code.isFrame, pushEnvs] using e.frames), e.mod, e.bs, e.bsz, e.funs, e.frf, e.hok, e.bare⟩
theorem Env0.in1 {P : Program} {w : World} {K : PySem.W.Frag} {mg : Str → Option Value} {base : Heap} {A : Around} {outer : List Env} {s : Shared} {H : Hp} (e : Env0 P w K mg base A outer s H) :
    Env0 P w K mg base A.in1 outer s H := ⟨e.frames, e.mod, e.bs, e.bsz, e.funs, e.frf, e.hok, e.bare⟩

section
variable {X : Cx} {pins : List (Addr × Obj)} {σ : St} {H : Hp} {s s' : Shared}
/-- from a body: what a callee wants -/
theorem Inv.env0 (I : Inv X pins σ H s) : Env0 X.prog X.w X.K X.mg X.base X.A X.stack s H :=
  ⟨I.ok.frames, I.ok.mod, I.bs, Nat.le_trans I.ok.bsz I.sz, I.stack, I.stkFree, I.hok, I.bare⟩
/-- behind a call -/
theorem Inv.after {Q : VK} {u : Value} (I : Inv X pins σ H s) (h : CE X.stack X.prog X.w H s Q u s') : EP X pins σ Q u s' := by
  obtain ⟨v, H', os, bare, un, hok, r, q⟩ := h
  obtain ⟨hh, g, d, t, os'⟩ := s'
  obtain rfl : os' = s.os := os
  exact ⟨v, H', I.call (h' := hh) (g' := g) (d' := d) (t' := t) (ch := []) un hok bare (fun b z => absurd z (by simp)), r, q⟩
end

/-! ### calls -/
/-- f(..): the written arguments, then the defaults dvs; E: what is wanted of an exception -/
def tCall (sp : Sp) (dvs : List V) (E : XK) (t : TA) : TE := fun σ H Q => t σ H fun vs H1 => sp (vs ++ dvs) H1 Q E
/-- o.m(..) of an instance of the class at C -/
def tMeth (C : Addr) (m : Str) (sp : Sp) (dvs : List V) (E : XK) (ta : TE) (t : TA) : TE := fun σ H Q => ta σ H fun x H1 => ∃ a dx fs, x = .ref a ∧ H1 a = some (.ins C dx fs) ∧ fs.lookup m = none ∧
  t σ H1 fun vs H2 => sp (x :: (vs ++ dvs)) H2 Q E
/-- C(..): a new instance and its dict, then __init__ -/
def tMake (C : Addr) (sp : Sp) (dvs : List V) (E : XK) (t : TA) : TE := fun σ H Q => t σ H fun vs H1 => ∀ x dx, H1 x = none → H1 dx = none → dx ≠ x →
  sp (.ref x :: (vs ++ dvs)) (upd (upd H1 dx (.own x)) x (.ins C dx [])) (fun v H2 => v = .non ∧ Q (.ref x) H2) E

/-- how the parameters are bound: us the positional arguments, kw the keywords' values by name, ds the defaults that fill up -/
def Binds (K : PySem.W.Frag) (fd : FuncData) (ps : List Str) (ds : List Value) : Prop :=
  ∀ (s : Shared) (us : List Value), K.In s.heap → (us ++ ds).length = ps.length → BindsTo s fd ⟨us, []⟩ (ps.zip (us ++ ds))
/-- every parameter is given -/
theorem Binds.all {K : PySem.W.Frag} {fd : FuncData} {ps : List Str} (h : ∀ us : List Value, us.length = ps.length → bindArgs fd ⟨us, []⟩ = pure (ps.zip us)) : Binds K fd ps [] := fun s us _ hl => by
  rw [List.append_nil] at hl ⊢
  exact .of_eq (h us hl)

/-- an exception of a callee reaches what this body wants of exceptions -/
def Passes (CX : CXT) (X : Cx) (E : XK) : Prop := ∀ (pins : List (Addr × Obj)) (σ : St) (H : Hp) (s : Shared) (e : Value) (s' : Shared), Inv X pins σ H s → CX X.stack H s E e s' → X.xe e s'

section
variable {X : Cx} {CX : CXT} {k : Nat} {f C : Addr} {fd : FuncData} {ps : List Str} {sp : Sp} {dvs : List V} {ds : List Value} {E : XK} {x m : Str} {p pos apos : Pos} {e o : Expr} {es : List Expr} {ta : TE} {t : TA}

/-- the callee runs -/
theorem run_fn {pins : List (Addr × Obj)} {σ : St} {H : Hp} {s : Shared} {Q : VK} {us : List Value} {vs : List V} (F : FnOk X.prog X.w X.K X.mg X.base CX k f fd ps sp) (hr : Room k X.A) (hb : Binds X.K fd ps ds) (hd : Vals dvs ds) (hx : Passes CX X E)
    (I : Inv X pins σ H s) (r : Vals vs us) (h : sp (vs ++ dvs) H Q E) : wpAny (model X.prog X.w) X.A (call (.ref f) us) (EP X pins σ Q) X.xe s := by
  have r2 : Vals (vs ++ dvs) (us ++ ds) := r.append hd
  have hl : (us ++ ds).length = ps.length := by rw [← r2.length]; exact F.len _ _ _ _ h
  refine wpAny_call (codeAny_mono (F.run X.A X.stack s H ⟨us, []⟩ (us ++ ds) (vs ++ dvs) Q E hr I.env0 (hb s us I.kIn hl) r2 h) fun r s' hq => ?_)
  cases r with
  | error e => exact hx pins σ H s e s' I hq
  | ok fl =>
    cases fl with
    | ret u => exact I.after hq
    | next => exact False.elim hq
    | brk => exact False.elim hq
    | cont => exact False.elim hq

theorem pe_call (F : FnOk X.prog X.w X.K X.mg X.base CX k f fd ps sp) (hr : Room k X.A) (hg : Gl X x) (hm : X.mg x = some (.ref f)) (hk : PySem.W.keepIn X.K (.ref f) = true) (hb : Binds X.K fd ps ds) (hd : Vals dvs ds) (hx : Passes CX X E)
    (ha : PA X (e :: es) t) (hdb : (x == ("__debug__" : Str)) = false := by decide) (he : starEach (e :: es) X.env = (false, eval e X.env) :: starEach es X.env := by rfl) (hpl : (backTo pos (starEach es X.env)).any (·.1) = false := by rfl) :
    PE X (.Call (.Name x p) (e :: es) [] pos) (tCall sp dvs E t) := by
  intro pins s σ H Q I h
  refine wpAny_Call_Name_kw (ld_glob I hg hm ?_ hdb)
  refine PySem.W.callWith_K (h₀ := X.base) I.ok.mod.kin hk (thn (ha pos pins s σ H _ I h) fun us s1 ⟨vs, H1, I1, r, q⟩ => ⟨I1.kIn, ?_⟩) he hpl
  exact run_fn F hr hb hd hx I1 r q

/-- o.m(e, ..) -/
theorem pe_meth {pl : Sem Bool} (he : PE X o ta) (c : Cls X.K C) (hm : Meth X.K C m f) (F : FnOk X.prog X.w X.K X.mg X.base CX k f fd ps sp) (hr : Room k X.A) (hb : Binds X.K fd ps ds) (hd : Vals dvs ds) (hx : Passes CX X E) (ha : PA X (e :: es) t)
    (hst : starEach (e :: es) X.env = (false, eval e X.env) :: starEach es X.env := by rfl) (hpl : (backTo pos (starEach es X.env)).any (·.1) = false := by rfl)
    (ht : eval (.Call (.Attribute o m apos) (e :: es) [] pos) X.env = (do
      let ov ← eval o X.env
      standAt apos.atName
      let (f, first) ← holding [ov] (getMethod ov m pl)
      callWith pos f first (backTo pos (starEach (e :: es) X.env)) (backToKw pos (keywordEach [] X.env))) := by rfl) :
    PE X (.Call (.Attribute o m apos) (e :: es) [] pos) (tMeth C m sp dvs E ta t) := by
  intro pins s σ H Q I h
  refine PySem.W.methodCall_KW (pl := pl) (thn (he pins s σ H _ I h) fun u s1 ⟨x, H1, I1, rx, a, dx, fs, ex, ea, l, q⟩ => ?_) ht
  subst ex
  obtain rfl : u = Value.ref a := rx
  refine getmeth_ok I1 ea c hm l ?_
  refine PySem.W.callWith_K (first := [.ref a]) (h₀ := X.base) I.ok.mod.kin hm.kp (thn (ha pos pins s1 σ H1 _ I1 q) fun us s2 ⟨vs, H2, I2, r, q2⟩ => ⟨I2.kIn, ?_⟩) hst hpl
  exact run_fn (us := .ref a :: us) (vs := .ref a :: vs) F hr hb hd hx I2 (.cons rfl r) q2

/-- what a class must have to be made -/
structure Mk (K : PySem.W.Frag) (C f : Addr) : Prop where
  makes : PySem.W.makesIn K C = true
  init : PySem.W.findIn K (.ref C) "__init__" = some (some (.ref f))
  fn : PySem.W.isFn K (.ref f) = true
  kp : PySem.W.keepIn K (.ref C) = true

theorem run_make {pins : List (Addr × Obj)} {σ : St} {H : Hp} {s : Shared} {Q : VK} {us : List Value} {vs : List V} (M : Mk X.K C f) (F : FnOk X.prog X.w X.K X.mg X.base CX k f fd ps sp) (hr : Room (k + 1) X.A) (hb : Binds X.K fd ps ds) (hd : Vals dvs ds)
    (hx : Passes CX X E) (I : Inv X pins σ H s) (r : Vals vs us)
    (h : ∀ x dx, H x = none → H dx = none → dx ≠ x → sp (.ref x :: (vs ++ dvs)) (upd (upd H dx (.own x)) x (.ins C dx [])) (fun v H2 => v = .non ∧ Q (.ref x) H2) E) :
    wpAny (model X.prog X.w) X.A (call (.ref C) us) (EP X pins σ Q) X.xe s := by
  have hq := h (s.heap.objs.size + 1) s.heap.objs.size (I.hok.fresh (Nat.le_succ _)) (I.hok.fresh (Nat.le_refl _)) (Nat.ne_of_lt (Nat.lt_succ_self _))
  have I2 := Inv.made (C := C) I
  have r2 : Vals (V.ref (s.heap.objs.size + 1) :: (vs ++ dvs)) (Value.ref (s.heap.objs.size + 1) :: (us ++ ds)) := .cons rfl (r.append hd)
  have hl : (Value.ref (s.heap.objs.size + 1) :: us ++ ds).length = ps.length := by
    have e := r2.length
    rw [F.len _ _ _ _ hq] at e
    exact e.symm
  refine wpAny_call (make_map (f := f) I.kIn M.makes M.init (beq_iff_eq.mp M.fn) (codeAny_mono (F.run _ X.stack _ _ ⟨Value.ref (s.heap.objs.size + 1) :: us, []⟩ (Value.ref (s.heap.objs.size + 1) :: (us ++ ds)) _ _ E (hr.make C us [])
    (I2.env0.make C us []) (hb _ (Value.ref (s.heap.objs.size + 1) :: us) I2.kIn hl) r2 hq) fun r s' hq' => ?_))
  cases r with
  | error e => exact hx pins σ _ _ e s' I2 hq'
  | ok fl =>
    cases fl with
    | ret u =>
      obtain ⟨v, H', I3, rv, ev, q3⟩ := I2.after hq'
      subst ev
      exact ⟨rv, ⟨V.ref (s.heap.objs.size + 1), H', I3, rfl, q3⟩⟩
    | next => exact False.elim hq'
    | brk => exact False.elim hq'
    | cont => exact False.elim hq'
theorem pe_make (M : Mk X.K C f) (F : FnOk X.prog X.w X.K X.mg X.base CX k f fd ps sp) (hr : Room (k + 1) X.A) (hg : Gl X x) (hm : X.mg x = some (.ref C)) (hb : Binds X.K fd ps ds) (hd : Vals dvs ds) (hx : Passes CX X E)
    (ha : PA X (e :: es) t) (hdb : (x == ("__debug__" : Str)) = false := by decide) (he : starEach (e :: es) X.env = (false, eval e X.env) :: starEach es X.env := by rfl) (hpl : (backTo pos (starEach es X.env)).any (·.1) = false := by rfl) :
    PE X (.Call (.Name x p) (e :: es) [] pos) (tMake C sp dvs E t) := by
  intro pins s σ H Q I h
  refine wpAny_Call_Name_kw (ld_glob I hg hm ?_ hdb)
  refine PySem.W.callWith_K (h₀ := X.base) I.ok.mod.kin M.kp (thn (ha pos pins s σ H _ I h) fun us s1 ⟨vs, H1, I1, r, q⟩ => ⟨I1.kIn, ?_⟩) he hpl
  exact run_make M F hr hb hd hx I1 r q
end

/-! ### keywords -/
/-- the values of the keywords, from the left -/
def PK (X : Cx) (kws : List Keyword) (t : TA) : Prop :=
  ∀ (pos : Pos) (pins : List (Addr × Obj)) (s : Shared) (σ : St) (H : Hp) (Q : List V → Hp → Prop), Inv X pins σ H s → t σ H Q → wpAny (model X.prog X.w) X.A (evalAll ((backToKw pos (keywordEach kws X.env)).map (·.2))) (AP X pins σ Q) X.xe s
section
variable {X : Cx} {CX : CXT} {k : Nat} {f C : Addr} {fd : FuncData} {ps ks : List Str} {sp : Sp} {E : XK} {x m : Str} {p pos apos kpos : Pos} {e o : Expr} {es : List Expr} {kws : List Keyword} {te ta : TE} {t tk : TA} {nm : Option Str}

/-- how a call with keywords binds: g puts the positional values us and the keywords' values ws (names ks) in the parameters' order, defaults among them -/
structure KBinds (K : PySem.W.Frag) (fd : FuncData) (ps ks : List Str) (g : List Value → List Value → List Value) (gV : List V → List V → List V) : Prop where
  to : ∀ (s : Shared) (us ws : List Value), K.In s.heap → (g us ws).length = ps.length → BindsTo s fd ⟨us, ks.zip ws⟩ (ps.zip (g us ws))
  rel : ∀ {vs : List V} {us : List Value} {zs : List V} {ws : List Value}, Vals vs us → Vals zs ws → Vals (gV vs zs) (g us ws)
def tCallK (sp : Sp) (gV : List V → List V → List V) (E : XK) (t tk : TA) : TE := fun σ H Q => t σ H fun vs H1 => tk σ H1 fun zs H2 => sp (gV vs zs) H2 Q E
variable {g : List Value → List Value → List Value} {gV : List V → List V → List V}
end

/-! ### a def's body keeps its promise -/
/-- names: the parameters first -/
structure FnScope (N P : List Str) (sc : Scope) : Prop where
  kind : sc.kind = .function
  co : sc.isCoroutine = false
  gen : sc.isGenerator = false
  nd : N.Nodup
  pre : N.take P.length = P
  par : ∀ x ∈ P, sc.names.lookup x = some .local ∨ sc.names.lookup x = some .cell
  nofree : ∀ y ∈ sc.names, y.2 ≠ .free

theorem bindL_out {kindOf : Str → Option NameKind} {x : Str} : ∀ {binds : List (Str × Value)} {m : Str → Option Value}, (∀ v, (x, v) ∉ binds) → bindL kindOf binds m x = m x
  | [], _, _ => rfl
  | (n, v) :: r, m, h => by
    unfold bindL
    rw [bindL_out fun w hw => h w (List.mem_cons_of_mem _ hw)]
    split
    · have : x ≠ n := by rintro rfl; exact h v List.mem_cons_self
      simp [this]
    · rfl
theorem bindC_out {kindOf : Str → Option NameKind} {x : Str} : ∀ {binds : List (Str × Value)} {m : Str → Option Value}, (∀ v, (x, v) ∉ binds) → bindC kindOf binds m x = m x
  | [], _, _ => rfl
  | (n, v) :: r, m, h => by
    unfold bindC
    rw [bindC_out fun w hw => h w (List.mem_cons_of_mem _ hw)]
    split
    · rfl
    · have : x ≠ n := by rintro rfl; exact h v List.mem_cons_self
      simp [this]
theorem bindL_get {kindOf : Str → Option NameKind} {x : Str} {v : Value} : ∀ {P : List Str} {vs : List Value} {i : Nat} {m : Str → Option Value}, P.Nodup → P[i]? = some x → vs[i]? = some v → kindOf x = some .local →
    bindL kindOf (P.zip vs) m x = some v
  | [], _, _, _, _, h, _, _ => by simp at h
  | _ :: _, [], _, _, _, _, h, _ => by simp at h
  | p :: P, w :: vs, 0, m, nd, h1, h2, hk => by
    simp at h1 h2; subst h1; subst h2
    show bindL kindOf ((p, w) :: P.zip vs) m p = _
    unfold bindL
    rw [bindL_out fun v hv => (List.nodup_cons.mp nd).1 (List.of_mem_zip hv).1, if_pos hk]
    simp
  | p :: P, w :: vs, i + 1, m, nd, h1, h2, hk => by
    show bindL kindOf ((p, w) :: P.zip vs) m x = _
    unfold bindL
    exact bindL_get (i := i) (List.nodup_cons.mp nd).2 (by simpa using h1) (by simpa using h2) hk
theorem bindC_get {kindOf : Str → Option NameKind} {x : Str} {v : Value} : ∀ {P : List Str} {vs : List Value} {i : Nat} {m : Str → Option Value}, P.Nodup → P[i]? = some x → vs[i]? = some v → kindOf x ≠ some .local →
    bindC kindOf (P.zip vs) m x = some v
  | [], _, _, _, _, h, _, _ => by simp at h
  | _ :: _, [], _, _, _, _, h, _ => by simp at h
  | p :: P, w :: vs, 0, m, nd, h1, h2, hk => by
    simp at h1 h2; subst h1; subst h2
    show bindC kindOf ((p, w) :: P.zip vs) m p = _
    unfold bindC
    rw [bindC_out fun v hv => (List.nodup_cons.mp nd).1 (List.of_mem_zip hv).1, if_neg hk]
    simp
  | p :: P, w :: vs, i + 1, m, nd, h1, h2, hk => by
    show bindC kindOf ((p, w) :: P.zip vs) m x = _
    unfold bindC
    exact bindC_get (i := i) (List.nodup_cons.mp nd).2 (by simpa using h1) (by simpa using h2) hk

/-- the names' values at the entry -/
def start (N : List Str) (vs : List V) : St := vs.map some ++ List.replicate (N.length - vs.length) none

/-- the context of a def's body, at its entry; an exception leaves the frame, then lies as CX says -/
def cxOf (CX : CXT) (P : Program) (w : World) (K : PySem.W.Frag) (mg : Str → Option Value) (base : Heap) (N : List Str) (qual : Str) (scope : Scope) (f : Addr) (cd : Value) (A : Around) (outer : List Env) (s : Shared) (H : Hp) (E : XK) : Cx where
  prog := P
  w := w
  K := K
  mg := mg
  base := base
  A := A.deeper (envOfC qual scope s.heap.objs.size f cd)
  N := N
  s_0 := s
  H_0 := H
  env := envOfC qual scope s.heap.objs.size f cd
  outer := outer
  stack := envOfC qual scope s.heap.objs.size f cd :: outer
  ex := []
  calm := true
  fn := fun _ => true
  pn := []
  xe := fun e s' => wpAny (model P w) (A.deeper (envOfC qual scope s.heap.objs.size f cd)) (leaving (envOfC qual scope s.heap.objs.size f cd) e) (fun _ s'' => CX outer H s E e s'') (fun e' s'' => CX outer H s E e' s'') s'

theorem cell_has {sc : Scope} {n : Nat} {x : Str} (h : sc.names.lookup x = some .cell) : ∃ c, (cellsFrom n sc.names []).lookup x = some c := by
  have q := PySem.W.cellsFrom_some sc.names n [] (.inl h)
  exact Option.isSome_iff_exists.mp q

theorem inv_start {CX : CXT} {P : Program} {w : World} {K : PySem.W.Frag} {mg : Str → Option Value} {base : Heap} {N ps : List Str} {qual : Str} {scope : Scope} {f : Addr} {cd : Value} {A : Around} {outer : List Env} {s s1 : Shared} {H : Hp} {E : XK} {us : List Value} {vs : List V}
    (S : FnScope N ps scope) (hd : A.handled = none) (e0 : Env0 P w K mg base A outer s H) (hl : vs.length = ps.length) (r : Vals vs us)
    (x : InCallC s s.heap.objs.size (bindL (envOfC qual scope s.heap.objs.size f cd).kindOf (ps.zip us) fun _ => none) (cellsFrom (s.heap.objs.size + 1) scope.names []) (bindC (envOfC qual scope s.heap.objs.size f cd).kindOf (ps.zip us) fun _ => none) s1) :
    Inv (cxOf CX P w K mg base N qual scope f cd A outer s H E) [] (start N vs) H s1 := by
  have hpl : ps.length ≤ N.length := by have := congrArg List.length S.pre; rw [List.length_take] at this; omega
  obtain ⟨h1, tk, rfl, hk⟩ := x.done
  have noA : ∀ b : Addr, b ∉ (cxOf CX P w K mg base N qual scope f cd A outer s H E).ex := fun b z => absurd (show b ∈ ([] : List Addr) from z) (by simp)
  refine ⟨⟨e0.mod, S.kind, rfl, rfl, Nat.le_refl _, fun y z c h1 h2 => ?_, fun y hy => ?_, fun y c _ h => ?_, fun _ => hd, Around.frames_deeper e0.frames, .inr ⟨rfl, rfl⟩, fun b z => absurd z (noA b), e0.bs, e0.bsz, fun b _ _ => noA b, fun b z => absurd z (noA b), e0.funs, e0.frf⟩,
    rfl, e0.bare, Un.kept hk, ⟨_, x.toInCall.ns, fun i y v h1 h2 h3 => ?_⟩, fun y c h => ⟨_, x.cell y c h⟩, e0.hok.fresh (Nat.le_refl _), fun y c h => ?_, fun p hp => absurd (show p ∈ ([] : List (Addr × Obj)) from hp) (by simp), e0.hok.kept hk, ?_⟩
  · exact name_of_addr x.apart (PySem.mem_of_lookup h1) (PySem.mem_of_lookup h2)
  · have hy : scope.names.lookup y = some .cell ∨ scope.names.lookup y = some .free := hy
    rcases hy with hy | hy
    · exact cell_has hy
    · exact absurd rfl (S.nofree _ (PySem.mem_of_lookup hy))
  · exact Nat.le_of_lt (x.above y c (PySem.mem_of_lookup h))
  · have hi : i < vs.length := by
      unfold start at h2
      by_cases hi : i < vs.length
      · exact hi
      · rw [List.getElem?_append_right (by simpa using hi)] at h2
        rw [List.getElem?_replicate] at h2
        split at h2 <;> cases h2
    have ha : vs[i]? = some v := by
      unfold start at h2
      rw [List.getElem?_append_left (by simpa using hi), List.getElem?_map] at h2
      cases e : vs[i]? with
      | none => rw [e] at h2; cases h2
      | some a => rw [e] at h2; cases h2; rfl
    obtain ⟨u, hu, rv⟩ := r.get ha
    have hp : ps[i]? = some y := by
      rw [← S.pre, List.getElem?_take_of_lt (by omega)]; exact h1
    have ndP : ps.Nodup := by rw [← S.pre]; exact S.nd.sublist (List.take_sublist _ _)
    refine ⟨u, rv, ?_⟩
    rcases S.par y (List.mem_of_getElem? hp) with k | k
    · exact .inl ⟨k, bindL_get ndP hp hu k⟩
    · obtain ⟨c, e⟩ := cell_has (n := s.heap.objs.size + 1) k
      refine .inr ⟨.inl k, c, e, ?_⟩
      have q := x.cell y c e
      rw [bindC_get ndP hp hu (by show scope.names.lookup y ≠ _; rw [k]; decide)] at q
      exact q
  · exact e0.hok.fresh (Nat.le_of_lt (x.above y c (PySem.mem_of_lookup h)))
  · unfold start
    show _ = N.length
    rw [List.length_append, List.length_map, List.length_replicate]
    omega

/-- THE RULE: a def (or a method) of the text, by its body. The body's reading t is chosen for each entry; it is run at the parameters' values -/
theorem fn_of {CX : CXT} {P : Program} {w : World} {K : PySem.W.Frag} {mg : Str → Option Value} {base : Heap} {k : Nat} {f : Addr} {name qual : Str} {params : Arguments} {body : List Stmt} {scope : Scope} {dV kV doc pm cdv ct oc : Value} {an od : Option Addr}
    {osl : Array (Option Value)} {N ps : List Str} {sp : Sp} (lk : K.lookup f = some ⟨oc, od, .func (PySem.W.fnOf name qual params body scope dV kV doc pm an cdv ct), osl⟩) (hcd : PySem.W.codeIn K cdv qual = true) (S : FnScope N ps scope)
    (len : ∀ vs H Q E, sp vs H Q E → vs.length = ps.length)
    (hbody : ∀ (A : Around) (outer : List Env) (s : Shared) (H : Hp) (vs : List V) (Q : VK) (E : XK), Room k (A.deeper (envOfC qual scope s.heap.objs.size f cdv)) → sp vs H Q E →
      ∃ t, PSs (cxOf CX P w K mg base N qual scope f cdv A outer s H E) body t ∧ t { nx := fun _ H' => Q .non H', rt := Q } (start N vs) H) :
    FnOk P w K mg base CX (k + 1) f (PySem.W.fnOf name qual params body scope dV kV doc pm an cdv ct) ps sp := by
  refine ⟨len, fun A outer s H args us vs Q E hr e0 hb r hsp => ?_⟩
  have hl := len _ _ _ _ hsp
  have KX : K.In s.heap := e0.mod.kin.keeps fun b o e => (e0.bs b o e).1
  have lim : s.heap.NoLimit := e0.mod.nolimit.keeps fun b o e => (e0.bs b o e).1
  have hkind : ∀ y ∈ ps.zip us, scope.names.lookup y.1 = some .local ∨ (scope.names.lookup y.1 = some .cell ∧ ((cellsFrom (s.heap.objs.size + 1) scope.names []).lookup y.1).isSome = true) := fun ⟨n, v⟩ hy => by
    rcases S.par n (List.of_mem_zip hy).1 with q | q
    · exact .inl q
    · exact .inr ⟨q, PySem.W.cellsFrom_some _ _ _ (.inl q)⟩
  refine codeAny_call_function hr.depth (KX _ _ lk) rfl S.co S.gen rfl (PySem.W.codeRec_of KX hcd) (hb _ _ _ _ ?_)
  refine wpAny_newFunctionEnv_cells S.kind hkind fun env he s1 x => ?_
  subst he
  refine ⟨lim.keeps x.toInCall.keep, codeAny_func ?_⟩
  obtain ⟨t, ht, hq⟩ := hbody A outer s H vs Q E (hr.deeper _) hsp
  have I : Inv (cxOf CX P w K mg base N qual scope f cdv A outer s H E) [] (start N vs) H s1 := inv_start S hr.hd e0 hl r x
  refine wpAny_mono (ht [] s1 (start N vs) H _ I hq) (fun fl s' hs => ?_) fun e s' hs => hs
  have fin : ∀ {σ' : St} {H' : Hp} {v : V} {u : Value}, Inv (cxOf CX P w K mg base N qual scope f cdv A outer s H E) [] σ' H' s' → RelV v u → Q v H' → CE outer P w H s Q u s' :=
    fun {σ' H' v u} J rv q => ⟨v, H', J.os, J.bare, J.base, J.hok, rv, q⟩
  cases fl with
  | ret u =>
    obtain ⟨v, σ', H', J, rv, q⟩ := hs
    exact fin J rv q
  | next =>
    obtain ⟨σ', H', J, q⟩ := hs
    exact fin (v := V.non) (u := Value.none) J rfl q
  | brk =>
    obtain ⟨_, _, _, q⟩ := hs
    exact False.elim q
  | cont =>
    obtain ⟨_, _, _, q⟩ := hs
    exact False.elim q
end L2

namespace L2
open PySem PySem.Spec PyProof.Rows
section
variable {X : Cx} {x : Str} {p pos : Pos} {e : Expr} {es : List Expr} {t : TA} {id T : String} {r : List V → Hp → VK → Prop}

def tCB (r : List V → Hp → VK → Prop) (t : TA) : TE := fun σ H Q => t σ H fun vs H1 => r vs H1 Q
/-- f(e, ..), f a built-in function -/
theorem pe_callB (hc : CallR X (.builtin id) r) (hg : Gl X x) (hm : X.mg x = none) (hv : bootBuiltins x = some (.builtin id)) (ha : PA X (e :: es) t) (hn : x ≠ "__name__" := by decide) (hdb : (x == ("__debug__" : Str)) = false := by decide)
    (he : starEach (e :: es) X.env = (false, eval e X.env) :: starEach es X.env := by rfl) (hpl : (backTo pos (starEach es X.env)).any (·.1) = false := by rfl) : PE X (.Call (.Name x p) (e :: es) [] pos) (tCB r t) := by
  intro pins s σ H Q I h
  refine wpAny_Call_Name_kw (ld_blt I hg hm hv ?_ hn hdb)
  exact PyProof.Rows.callWith_builtin1 (thn (ha pos pins s σ H _ I h) fun us s1 ⟨vs, H1, I1, r1, q1⟩ => hc pins s1 σ H1 vs us Q I1 r1 q1) he hpl
/-- T(e, ..), T a built-in type -/
theorem pe_callTy (hc : CallR X (.type T) r) (hg : Gl X x) (hm : X.mg x = none) (hv : bootBuiltins x = some (.type T)) (ha : PA X (e :: es) t) (hn : x ≠ "__name__" := by decide) (hdb : (x == ("__debug__" : Str)) = false := by decide)
    (he : starEach (e :: es) X.env = (false, eval e X.env) :: starEach es X.env := by rfl) (hpl : (backTo pos (starEach es X.env)).any (·.1) = false := by rfl) : PE X (.Call (.Name x p) (e :: es) [] pos) (tCB r t) := by
  intro pins s σ H Q I h
  refine wpAny_Call_Name_kw (ld_blt I hg hm hv ?_ hn hdb)
  exact PyProof.Rows.callWith_type1 (thn (ha pos pins s σ H _ I h) fun us s1 ⟨vs, H1, I1, r1, q1⟩ => hc pins s1 σ H1 vs us Q I1 r1 q1) he hpl
end
end L2

namespace HT
open PySem PyProof.Rows

/-- t < u of tuples of ints -/
def lexLt : List Int → List Int → Bool
  | [], [] => false
  | [], _ :: _ => true
  | _ :: _, [] => false
  | x :: xs, y :: ys => if x = y then lexLt xs ys else decide (x < y)


section
open PySem.SeqAt
open PySem.AutoSeq1 (wpAny_loadPart')
open PySem.MeetsSeq PySem.MeetsSeq2 PySem.MeetsSeq3

end

section
variable {prog : Program} {w : World} {A : Around} {E : Value → Shared → Prop} {s : Shared}



/-! ### t[a:b], not the whole -/
/-- a slice's bound as a place among n (d where it is left out) -/
def sIx (n d : Nat) : Option Int → Nat
  | none => d
  | some v => if v < 0 then (v + (n : Int)).toNat else min v.toNat n
theorem sIx_none (n d : Nat) : sIx n d none = d := rfl
theorem sIx_nat (n d k : Nat) : sIx n d (some (k : Int)) = min k n := by
  show (if (k : Int) < 0 then ((k : Int) + (n : Int)).toNat else min (k : Int).toNat n) = min k n
  rw [if_neg (by omega), Int.toNat_natCast]

end
end HT

namespace L2
open PySem PySem.Spec PyProof.Rows

/-! ### the parts of a slice -/
abbrev TO := St → Hp → (Option Int → Hp → Prop) → Prop
/-- a slice's part (left out, or an int) -/
def PO (X : Cx) (e : Option Expr) (t : TO) : Prop :=
  ∀ (pins : List (Addr × Obj)) (s : Shared) (σ : St) (H : Hp) (Q : Option Int → Hp → Prop), Inv X pins σ H s → t σ H Q →
    wpAny (model X.prog X.w) X.A (evalPart e X.env) (fun u s' => ∃ o H', Inv X pins σ H' s' ∧ IsPart u o ∧ Q o H') X.xe s
def tNoPart : TO := fun _ H Q => Q none H
def tPart (t : TE) : TO := fun σ H Q => t σ H fun x H1 => ∃ i, x = .int i ∧ Q (some i) H1


section
variable {X : Cx} {e : Expr} {te : TE} {lo hi : Option Expr} {tl th : TO} {pos p2 : Pos}

theorem po_none : PO X none tNoPart := by
  intro pins s σ H Q I h
  rw [evalPart_none]
  exact wpAny_pure ⟨none, H, I, .none, h⟩
theorem po_some (h : PE X e te) : PO X (some e) (tPart te) := by
  intro pins s σ H Q I hw
  rw [evalPart_some]
  refine thn (h pins s σ H _ I hw) fun u s1 ⟨x, H1, I1, r1, q1⟩ => ?_
  obtain ⟨i, rfl, q⟩ := q1
  obtain ⟨t, rfl⟩ := r1
  exact ⟨some i, H1, I1, .int i t, q⟩

/-- what a slice of a value is, by values: the slice object stands at sl -/
def SlR (X : Cx) (r : V → Option Int → Option Int → Hp → VK → Prop) : Prop :=
  ∀ (pins : List (Addr × Obj)) (s : Shared) (σ : St) (H : Hp) (x : V) (v vl vu : Value) (lo hi : Option Int) (sl : Addr) (Q : VK), Inv X pins σ H s → RelV x v → s.heap.IsSliceOf sl vl vu .none → IsPart vl lo → IsPart vu hi → r x lo hi H Q →
    ∃ T id, typeLookup (.type T) "__getitem__" = pure (some (.builtin id)) ∧ s.TypeIs v T ∧ wpAny (model X.prog X.w) X.A (getItem v (.ref sl)) (EP X pins σ Q) X.xe s
theorem SlR.or {r r' : V → Option Int → Option Int → Hp → VK → Prop} (h : SlR X r) (h' : SlR X r') : SlR X (fun x lo hi H Q => r x lo hi H Q ∨ r' x lo hi H Q) := by
  intro pins s σ H x v vl vu lo hi sl Q I rx hs pl pu q
  rcases q with q | q
  · exact h pins s σ H x v vl vu lo hi sl Q I rx hs pl pu q
  · exact h' pins s σ H x v vl vu lo hi sl Q I rx hs pl pu q
def tSl (r : V → Option Int → Option Int → Hp → VK → Prop) (te : TE) (tl th : TO) : TE := fun σ H Q => te σ H fun x H1 => tl σ H1 fun l H2 => th σ H2 fun u H3 => r x l u H3 Q
/-- a[lo:hi], any a -/
theorem pe_slice {r : V → Option Int → Option Int → Hp → VK → Prop} (hr : SlR X r) (he : PE X e te) (hl : PO X lo tl) (hu : PO X hi th) : PE X (.Subscript e (.Slice lo hi none p2) pos) (tSl r te tl th) := by
  intro pins s σ H Q I h
  refine Subscript_ (thn (he pins s σ H _ I h) fun v s1 ⟨x, H1, I1, r1, q1⟩ => ?_)
  refine wpAny_Slice (thn (hl pins s1 σ H1 _ I1 q1) fun vl s2 ⟨l, H2, I2, pl, q2⟩ => thn (hu pins s2 σ H2 _ I2 q2) fun vu s3 ⟨u, H3, I3, pu, q3⟩ => ?_)
  rw [evalPart_none]
  refine wpAny_pure ?_
  have I4 : Inv X pins σ H3 { s3 with heap := s3.heap.push { cls := .type "slice", data := .fields #[vl, vu, .none] } } := I3.kept (t' := s3.toks) fun b ob q => Heap.get?_push_of_some _ q
  obtain ⟨T, id, hT, ht, hg⟩ := hr pins { s3 with heap := s3.heap.push { cls := .type "slice", data := .fields #[vl, vu, .none] } } σ H3 x v vl vu l u s3.heap.objs.size Q I4 r1 (Heap.IsSliceOf.new ..) pl pu q3
  show wpAny (model X.prog X.w) X.A (subscriptTail e (.Slice lo hi none p2) v (.ref s3.heap.objs.size)) (EP X pins σ Q) X.xe { s3 with heap := s3.heap.push { cls := .type "slice", data := .fields #[vl, vu, .none] } }
  exact tail_any (ops := [.ref s3.heap.objs.size, v]) ht hT hg (by with_unfolding_all rfl)

/-- the items of xs[lo:hi] -/
def cutV (xs : List V) (lo hi : Option Int) : List V := (xs.drop (HT.sIx xs.length 0 lo)).take (HT.sIx xs.length xs.length hi - HT.sIx xs.length 0 lo)
theorem cutV_length (xs : List V) (lo hi : Option Int) : (cutV xs lo hi).length ≤ xs.length := by
  unfold cutV
  rw [List.length_take, List.length_drop]
  omega
/-- t[lo:hi], not the whole of it (the whole would be t itself) -/
def rSlT (K : PySem.W.Frag) : V → Option Int → Option Int → Hp → VK → Prop := fun x lo hi H Q => ∃ a xs, x = .ref a ∧ SqT K H a xs ∧
  ¬ (HT.sIx xs.length 0 lo = 0 ∧ HT.sIx xs.length xs.length hi = xs.length) ∧ ∀ p, H p = none → Q (.ref p) (upd H p (.tup (cutV xs lo hi)))

/-! ### t < u, t + u -/
def rLtT (K : PySem.W.Frag) : R2 := fun x y H Q => ∃ a b ns ms, x = .ref a ∧ y = .ref b ∧ SqT K H a (ns.map V.int) ∧ SqT K H b (ms.map V.int) ∧ Q (.bl (HT.lexLt ns ms)) H
/-- t + u, t not empty: u empty gives t itself -/
def rCatT (K : PySem.W.Frag) : R2 := fun x y H Q => ∃ a b xs ys, x = .ref a ∧ y = .ref b ∧ SqT K H a xs ∧ SqT K H b ys ∧ xs ≠ [] ∧ xs.length + ys.length ≤ sizeLine ∧
  (ys = [] → Q (.ref a) H) ∧ (ys ≠ [] → ∀ p, H p = none → Q (.ref p) (upd H p (.tup (xs ++ ys))))
end
end L2

namespace L2
open PySem PySem.Spec PyProof.Rows

/-! ### places -/
/-- the place that an index of any sign means -/
def ixN (n : Nat) (i : Int) : Option Nat := if 0 ≤ i then (if i < n then some i.toNat else none) else if -(n : Int) ≤ i then some (i + n).toNat else none
def atI {α : Type} (xs : List α) (i : Int) : Option α := (ixN xs.length i).bind fun j => xs[j]?
theorem ixN_seq {n : Nat} {i : Int} {j : Nat} (h : ixN n i = some j) : seqIndex? i n = some j ∧ j < n ∧ -(n : Int) ≤ i ∧ i < n := by
  unfold ixN at h
  by_cases h0 : 0 ≤ i
  · rw [if_pos h0] at h
    by_cases h1 : i < n
    · rw [if_pos h1] at h
      have e : i.toNat = j := Option.some.inj h
      exact ⟨by rw [seqIndex_of h0 h1, e], by omega, by omega, h1⟩
    · rw [if_neg h1] at h; cases h
  · rw [if_neg h0] at h
    by_cases h1 : -(n : Int) ≤ i
    · rw [if_pos h1] at h
      have e : (i + n).toNat = j := Option.some.inj h
      exact ⟨by rw [seqIndex_neg (by omega) h1, e], by omega, h1, by omega⟩
    · rw [if_neg h1] at h; cases h
theorem atI_get {α : Type} {xs : List α} {i : Int} {v : α} (h : atI xs i = some v) : ∃ j, seqIndex? i xs.length = some j ∧ xs[j]? = some v ∧ j < xs.length ∧ -(xs.length : Int) ≤ i ∧ i < xs.length := by
  unfold atI at h
  cases e : ixN xs.length i with
  | none => rw [e] at h; cases h
  | some j =>
    rw [e] at h
    obtain ⟨h1, h2, h3, h4⟩ := ixN_seq e
    exact ⟨j, h1, h, h2, h3, h4⟩
theorem atI_nat {α : Type} {xs : List α} {j : Nat} {v : α} (h : xs[j]? = some v) : atI xs (j : Int) = some v := by
  have hj : j < xs.length := (List.getElem?_eq_some_iff.mp h).1
  have e : ixN xs.length (j : Int) = some j := by
    unfold ixN
    rw [if_pos (by omega), if_pos (by omega)]; simp
  unfold atI; rw [e]; exact h
theorem atI_last {α : Type} (xs : List α) (v : α) : atI (xs ++ [v]) (-1) = some v := by
  have hl : (xs ++ [v]).length = xs.length + 1 := by simp
  have e : ixN (xs ++ [v]).length (-1) = some xs.length := by
    unfold ixN
    rw [hl, if_neg (by decide), if_pos (by omega)]
    congr 1
    omega
  unfold atI
  rw [e]
  show (xs ++ [v])[xs.length]? = some v
  simp

/-! ### what may be subscripted -/
/-- what stands as an index of a plain subscript -/
def PlainIx (b : Expr) : Prop := ∀ o i, subscripted b false o i = operate [o, i] (getItem o i)
/-- a subscript by values -/
def IxR (X : Cx) (r : R2) : Prop :=
  ∀ (value slice : Expr) (pins : List (Addr × Obj)) (s : Shared) (σ : St) (H : Hp) (x y : V) (v u : Value) (Q : VK), Inv X pins σ H s → RelV x v → RelV y u → r x y H Q →
    subscripted slice false v u = operate [v, u] (getItem v u) → wpAny (model X.prog X.w) X.A (subscriptTail value slice v u) (EP X pins σ Q) X.xe s
/-- a call of a builtin's method by values: the receiver, the arguments -/
def MtR (X : Cx) (id : String) (r : V → List V → Hp → VK → Prop) : Prop :=
  ∀ (pins : List (Addr × Obj)) (s : Shared) (σ : St) (H : Hp) (x : V) (xs : List V) (v : Value) (us : List Value) (Q : VK), Inv X pins σ H s → RelV x v → Vals xs us → r x xs H Q →
    wpAny (model X.prog X.w) X.A (call (.builtin id) (v :: us)) (EP X pins σ Q) X.xe s
section
variable {X : Cx} {a b : Expr} {ta tb : TE} {pos : Pos}
theorem IxR.or {r r' : R2} (h : IxR X r) (h' : IxR X r') : IxR X (fun x y H Q => r x y H Q ∨ r' x y H Q) := by
  intro value slice pins s σ H x y v u Q I rx ry q hs
  rcases q with q | q
  · exact h value slice pins s σ H x y v u Q I rx ry q hs
  · exact h' value slice pins s σ H x y v u Q I rx ry q hs
theorem MtR.or {id : String} {r r' : V → List V → Hp → VK → Prop} (h : MtR X id r) (h' : MtR X id r') : MtR X id (fun x xs H Q => r x xs H Q ∨ r' x xs H Q) := by
  intro pins s σ H x xs v us Q I rx rs q
  rcases q with q | q
  · exact h pins s σ H x xs v us Q I rx rs q
  · exact h' pins s σ H x xs v us Q I rx rs q
/-- a[b] -/
theorem pe_ix {r : R2} (hr : IxR X r) (ha : PE X a ta) (hb : PE X b tb) (hs : PlainIx b) : PE X (.Subscript a b pos) (tOp r ta tb) := by
  intro pins s σ H Q I h
  exact Subscript_ (binT ha hb I h fun v u s2 x y H2 I2 rx ry q => hr a b pins s2 σ H2 x y v u Q I2 rx ry q (hs _ _))

def rIxL (K : PySem.W.Frag) : R2 := fun x y H Q => ∃ p xs i v, x = .ref p ∧ y = .int i ∧ SqL K H p xs ∧ atI xs i = some v ∧ Q v H
def rIxT (K : PySem.W.Frag) : R2 := fun x y H Q => ∃ p xs i v, x = .ref p ∧ y = .int i ∧ SqT K H p xs ∧ atI xs i = some v ∧ Q v H
def rIxS : R2 := fun x y H Q => ∃ z i c, x = .str z ∧ y = .int i ∧ z.length ≤ sizeLine ∧ atI z.cps.toList i = some c ∧ Q (.str ⟨#[c]⟩) H
theorem ix_list : IxR X (rIxL X.K) := by
  intro value slice pins s σ H x y v u Q I rx ry h hs
  obtain ⟨p, xs, i, z, rfl, rfl, hq, he, q⟩ := h
  cases rx
  obtain ⟨t, rfl⟩ := ry
  obtain ⟨its, r, pl, hz⟩ := I.list hq
  obtain ⟨j, h1, h2, h3, h4, h5⟩ := atI_get he
  obtain ⟨w, ew, rw'⟩ := r.get h2
  have hl := r.length
  have hn := line63
  have fin : EP X pins σ Q w s := ⟨z, H, I, rw', q⟩
  by_cases h0 : 0 ≤ i
  · have hj : i.toNat = j := by
      rw [seqIndex_of h0 h5] at h1
      exact Option.some.inj h1
    exact item_listR pl.isList h0 (by omega) (by rw [hj]; simpa using ew) fin hs
  · have hj : (i + (its.toArray.size : Int)).toNat = j := by
      rw [seqIndex_neg (by omega) h4] at h1
      rw [List.size_toArray, ← hl]
      exact Option.some.inj h1
    exact subscriptTail_builtinR (x := w) pl.isList.typeIs slot_list_getitem.lookup
      (wpAny_getItem_list_neg (Q := fun r s' => r = w ∧ EP X pins σ Q r s') pl.isList (by omega) (by rw [List.size_toArray] <;> omega) (by omega) (by rw [hj]; simpa using ew) ⟨rfl, fin⟩) hs
theorem ix_tup : IxR X (rIxT X.K) := by
  intro value slice pins s σ H x y v u Q I rx ry h hs
  obtain ⟨p, xs, i, z, rfl, rfl, hq, he, q⟩ := h
  cases rx
  obtain ⟨t, rfl⟩ := ry
  obtain ⟨its, r, pl, hz⟩ := I.tuple hq
  obtain ⟨j, h1, h2, h3, h4, h5⟩ := atI_get he
  obtain ⟨w, ew, rw'⟩ := r.get h2
  have hl := r.length
  have hn := line63
  have fin : EP X pins σ Q w s := ⟨z, H, I, rw', q⟩
  exact subscriptTail_builtinR (x := w) pl.typeIs slot_tuple_getitem.lookup
    (getItem_tuple (j := j) (Q := fun r s' => r = w ∧ EP X pins σ Q r s') pl (by omega) (by omega) (by rw [List.size_toArray, ← hl]; exact h1) (by simpa using ew) ⟨rfl, fin⟩) hs
/-- list, tuple or str -/
def rIx (K : PySem.W.Frag) : R2 := fun x y H Q => rIxL K x y H Q ∨ rIxT K x y H Q ∨ rIxS x y H Q

/-! ### xs[i] = v, any sign -/
theorem Inv.lst {pins : List (Addr × Obj)} {σ : St} {H : Hp} {s : Shared} {p : Addr} {xs : List V} (I : Inv X pins σ H s) (h : H p = some (.lst xs)) :
    ∃ (its : List Value) (n : Nat), Vals xs its ∧ s.heap.get? p = some { cls := .type "list", data := .seq its.toArray n } ∧ xs.length ≤ sizeLine := by
  obtain ⟨z, its, n, r, e⟩ := I.hok p _ h
  exact ⟨its, n, r, e, z⟩
def rSetL : V → V → V → Hp → (Hp → Prop) → Prop := fun o i v H Q => ∃ p xs k j, o = .ref p ∧ i = .int k ∧ H p = some (.lst xs) ∧ ixN xs.length k = some j ∧ Q (upd H p (.lst (xs.set j v)))

/-! ### slices -/
theorem slice_bounds (lo hi : Option Int) (n : Nat) : (sliceBounds lo hi none n).1 = ((HT.sIx n 0 lo : Nat) : Int) ∧ (sliceBounds lo hi none n).2.1 = ((HT.sIx n n hi : Nat) : Int) ∧ (sliceBounds lo hi none n).2.2 = 1 := by
  refine ⟨?_, ?_, rfl⟩
  · cases lo with
    | none => simp [sliceBounds, HT.sIx]
    | some i =>
      simp only [sliceBounds, HT.sIx, Option.getD_none, show (1 : Int) > 0 by decide, if_true]
      by_cases h : i < 0
      · simp only [h, if_true] <;> omega
      · simp only [h, if_false] <;> omega
  · cases hi with
    | none => simp [sliceBounds, HT.sIx]
    | some i =>
      simp only [sliceBounds, HT.sIx, Option.getD_none, show (1 : Int) > 0 by decide, if_true]
      by_cases h : i < 0
      · simp only [h, if_true] <;> omega
      · simp only [h, if_false] <;> omega
theorem slicePick_cut (its : List Value) (lo hi : Option Int) : slicePick its.toArray lo hi none = ((its.drop (HT.sIx its.length 0 lo)).take (HT.sIx its.length its.length hi - HT.sIx its.length 0 lo)).toArray := by
  obtain ⟨h1, h2, h3⟩ := slice_bounds lo hi its.toArray.size
  unfold slicePick
  rw [h1, h2, h3]
  simp only [sliceRange_one, pick_run, List.size_toArray] <;> rfl
/-- xs[lo:hi] of a list: a new list -/
def rSlL (K : PySem.W.Frag) : V → Option Int → Option Int → Hp → VK → Prop := fun x lo hi H Q => ∃ a xs, x = .ref a ∧ SqL K H a xs ∧ ∀ p, H p = none → Q (.ref p) (upd H p (.lst (cutV xs lo hi)))
theorem sl_list : SlR X (rSlL X.K) := by
  intro pins s σ H x v vl vu lo hi sl Q I rx hs pl pu h
  obtain ⟨a, xs, rfl, hx, q⟩ := h
  cases rx
  obtain ⟨its, r, ht, hz⟩ := I.list hx
  have hlen := r.length
  refine ⟨"list", _, slot_list_getitem.lookup, ht.isList.typeIs, ?_⟩
  refine wpAny_getItem_list_slice ht.isList hs pl pu .none (by simp) ?_ (by rw [List.size_toArray] <;> omega)
  rw [slicePick_cut, ← hlen]
  refine ⟨.ref s.heap.objs.size, _, I.laid (t' := s.toks) (o := .lst (cutV xs lo hi)) (fun b ob q => Heap.get?_push_of_some _ q) (Nat.le_refl _) ?_, rfl, q _ (I.hok.fresh (Nat.le_refl _))⟩
  exact ⟨Nat.le_trans (cutV_length xs lo hi) hz, _, 0, (r.drop (HT.sIx xs.length 0 lo)).take (HT.sIx xs.length xs.length hi - HT.sIx xs.length 0 lo), Heap.get?_push_size _ rfl⟩

/-! ### in, not in: flat items -/
def flatV : V → Bool
  | .non => true
  | .bl _ => true
  | .int _ => true
  | .str _ => true
  | _ => false
/-- == of flat values -/
def eqV : V → V → Bool
  | .non, .non => true
  | .bl a, .bl b => a == b
  | .bl a, .int b => (if a then 1 else 0) == b
  | .int a, .bl b => a == (if b then 1 else 0)
  | .int a, .int b => a == b
  | .str a, .str b => a == b
  | _, _ => false
/-- the items' answers, read off the values (a value's own answer does not lean on its token) -/
def eqU (x : V) (u : Value) : Bool := match u with
  | .none => eqV .non x
  | .bool b => eqV (.bl b) x
  | .int i _ => eqV (.int i) x
  | .str z _ => eqV (.str z) x
  | _ => false
def inV (x : V) (xs : List V) : Bool := xs.any fun y => eqV y x
/-- x in a list or tuple of flat items -/
def rIn (K : PySem.W.Frag) (neg : Bool) : R2 := fun x y H Q => ∃ p xs, y = .ref p ∧ (SqL K H p xs ∨ SqT K H p xs) ∧ flatV x = true ∧ xs.all flatV = true ∧ Q (.bl (if neg then !inV x xs else inV x xs)) H

/-! ### len, list(x), tuple(x) of any list or tuple that is read -/
theorem call_len_seq : CallR X (.builtin "len") (fun xs H Q => ∃ p ys, xs = [.ref p] ∧ (SqL X.K H p ys ∨ SqT X.K H p ys) ∧ Q (.int ys.length) H) := by
  intro pins s σ H xs us Q I r h
  obtain ⟨p, ys, rfl, hq, q⟩ := h
  obtain ⟨u, rfl, rx⟩ := vals1 r
  cases rx
  have hn := line63
  rcases hq with hq | hq
  · obtain ⟨its, r', pl, hz⟩ := I.list hq
    have hlen := r'.length
    exact Calls.call_len_list pl.isList (by simp only [List.size_toArray] <;> omega) ⟨.int ys.length, H, I.tok _, ⟨s.toks + 1, by rw [List.size_toArray, hlen]⟩, q⟩
  · obtain ⟨its, r', pl, hz⟩ := I.tuple hq
    have hlen := r'.length
    exact len_tuple pl (by simp only [List.size_toArray] <;> omega) ⟨.int ys.length, H, I.tok _, ⟨s.toks + 1, by rw [List.size_toArray, hlen]⟩, q⟩
theorem CallR.or {f : Value} {r r' : List V → Hp → VK → Prop} (h : CallR X f r) (h' : CallR X f r') : CallR X f (fun xs H Q => r xs H Q ∨ r' xs H Q) := by
  intro pins s σ H xs us Q I rs q
  rcases q with q | q
  · exact h pins s σ H xs us Q I rs q
  · exact h' pins s σ H xs us Q I rs q

/-! ### the call of a builtin's method: o.m(..) -/
/-- the value is of that builtin type -/
def tyV (K : PySem.W.Frag) (T : String) (x : V) (H : Hp) : Prop := match x with
  | .str _ => T = "str"
  | .int _ => T = "int"
  | .ref p => (T = "list" ∧ ∃ xs, SqL K H p xs) ∨ (T = "tuple" ∧ ∃ o, K.lookup p = some o ∧ o.cls = .type "tuple" ∧ o.dict = none) ∨
      (T = "dict" ∧ ((∃ kvs, H p = some (.dK kvs)) ∨ ∃ kvs, H p = some (.dT kvs))) ∨ (T = "set" ∧ ∃ S n, H p = some (.set S n))
  | _ => False
theorem tyV_is {pins : List (Addr × Obj)} {σ : St} {H : Hp} {s : Shared} {T : String} {x : V} {v : Value} (I : Inv X pins σ H s) (r : RelV x v) (ty : tyV X.K T x H) :
    s.TypeIs v T ∧ ∀ a, v = .ref a → ∃ ob, s.heap.get? a = some ob ∧ ob.dict = none := by
  cases x with
  | str z =>
    obtain ⟨t, rfl⟩ := r
    cases (show T = "str" from ty)
    exact ⟨typeIs_str s z t, fun _ e => nomatch e⟩
  | int i =>
    obtain ⟨t, rfl⟩ := r
    cases (show T = "int" from ty)
    exact ⟨typeIs_int s i t, fun _ e => nomatch e⟩
  | ref p =>
    cases r
    rcases ty with ⟨rfl, xs, hq⟩ | ⟨rfl, o, hk, hc, hd⟩ | ⟨rfl, hk⟩ | ⟨rfl, S, n, hk⟩
    · obtain ⟨its, _, pl, _⟩ := I.list hq
      refine ⟨pl.isList.typeIs, fun a e => ?_⟩
      cases e
      obtain ⟨o, n, e, c, hd, _⟩ := pl
      exact ⟨o, e, hd⟩
    · refine ⟨⟨o, I.kIn p o hk, hc⟩, fun a e => ?_⟩
      cases e
      exact ⟨o, I.kIn _ o hk, hd⟩
    · have z : ∃ o, s.heap.get? p = some o ∧ o.ExactDict := by
        rcases hk with ⟨kvs, hk⟩ | ⟨kvs, hk⟩
        · obtain ⟨_, _, _, _, o, _, _, e, ex, _⟩ := I.hok p _ hk
          exact ⟨o, e, ex⟩
        · obtain ⟨_, _, _, _, o, _, _, e, ex, _⟩ := I.hok p _ hk
          exact ⟨o, e, ex⟩
      obtain ⟨o, e, ex⟩ := z
      refine ⟨⟨o, e, ex.1⟩, fun a e2 => ?_⟩
      cases e2
      exact ⟨o, e, ex.2.1⟩
    · obtain ⟨o, _, _, _, e, ex, _⟩ := I.hok p _ hk
      refine ⟨⟨o, e, ex.1⟩, fun a e2 => ?_⟩
      cases e2
      exact ⟨o, e, ex.2.1⟩
  | _ => exact False.elim ty
def tBM0 (K : PySem.W.Frag) (T : String) (r : V → List V → Hp → VK → Prop) (to : TE) : TE := fun σ H Q => to σ H fun x H1 => tyV K T x H1 ∧ r x [] H1 Q
def tBM (K : PySem.W.Frag) (T : String) (r : V → List V → Hp → VK → Prop) (to : TE) (t : TA) : TE := fun σ H Q => to σ H fun x H1 => tyV K T x H1 ∧ t σ H1 fun xs H2 => r x xs H2 Q
variable {o e : Expr} {es : List Expr} {to : TE} {t : TA} {name : Str} {apos cpos : Pos} {T id : String} {r : V → List V → Hp → VK → Prop}
theorem pe_bm (pa : PlainAttrs T) (slot : Slot T name id) (hty : typeOf (.builtin id) = pure (.type "method_descriptor")) (hm : MtR X id r) (ho : PE X o to) (ha : PA X (e :: es) t)
    (hbase : attributeBase o name X.env (eval o X.env) = eval o X.env := by rfl)
    (hfew : ((backTo cpos (starEach (e :: es) X.env)).all (fun x => !x.1) && (backToKw cpos (keywordEach [] X.env)).all (fun x => x.1.isSome)
      && decide ((e :: es).length + ([] : List Keyword).length + (if ([] : List Keyword).isEmpty then 0 else 1) < 30)) = true := by rfl)
    (hline : (apos.endLine == cpos.line) = true := by rfl) (hs : starEach (e :: es) X.env = (false, eval e X.env) :: starEach es X.env := by rfl) (hplain : (backTo cpos (starEach es X.env)).any (·.1) = false := by rfl) :
    PE X (.Call (.Attribute o name apos) (e :: es) [] cpos) (tBM X.K T r to t) := by
  intro pins s σ H Q I h
  refine wpAny_Call_method_late hbase hfew hline rfl (thn (ho pins s σ H _ I h) fun v s1 ⟨x, H1, I1, r1, ty, q1⟩ => ?_)
  obtain ⟨h1, h2⟩ := tyV_is I1 r1 ty
  refine ⟨T, id, pa, slot, hty, h1, h2, ?_⟩
  have hA := ha cpos pins s1 σ H1 _ I1 q1
  rw [hs] at hA ⊢
  refine Calls.callWith_builtin (by show (false || (backTo cpos (starEach es X.env)).any (·.1)) = false; rw [hplain] <;> rfl) (Calls.evalArgs_plain ?_)
  exact thn hA fun us s2 ⟨vs, H2, I2, r2, q2⟩ => hm pins s2 σ H2 x vs v us Q I2 r1 r2 q2
/- xs.append(e), list.index on a module's tuple .. are MtR facts of 06m -/
end
end L2

namespace L2
open PySem PySem.Spec PyProof.Rows

def MtM (X : Cx) (id : String) (r : V → List V → Hp → VK → Prop) : Prop :=
  ∀ (pins : List (Addr × Obj)) (s : Shared) (σ : St) (H : Hp) (x : V) (xs : List V) (v : Value) (us : List Value) (Q : VK), Inv X pins σ H s → RelV x v → Vals xs us → r x xs H Q →
    wpAny (model X.prog X.w) X.A (call (.builtin id) (v :: us)) (EP X pins σ Q) X.xe s

/-! ### lists of values -/
theorem Vals.one : ∀ {x : V} {us : List Value}, Vals [x] us → ∃ u, us = [u] ∧ RelV x u
  | _, _, .cons r .nil => ⟨_, rfl, r⟩
theorem Vals.two : ∀ {x y : V} {us : List Value}, Vals [x, y] us → ∃ u v, us = [u, v] ∧ RelV x u ∧ RelV y v
  | _, _, _, .cons r (.cons q .nil) => ⟨_, _, rfl, r, q⟩
theorem Vals.zero : ∀ {us : List Value}, Vals [] us → us = []
  | _, .nil => rfl
theorem Vals.dropLast {xs : List V} {us : List Value} (h : Vals xs us) : Vals xs.dropLast us.dropLast := by
  induction h with
  | nil => exact .nil
  | cons r t ih =>
    cases t with
    | nil => exact .nil
    | cons q t' => exact .cons r ih
theorem Vals.eraseIdx : ∀ {xs : List V} {us : List Value} (i : Nat), Vals xs us → Vals (xs.eraseIdx i) (us.eraseIdx i)
  | _, _, _, .nil => .nil
  | _, _, 0, .cons _ t => t
  | _, _, i + 1, .cons r t => .cons r (Vals.eraseIdx i t)
theorem Vals.reverse {xs : List V} {us : List Value} (h : Vals xs us) : Vals xs.reverse us.reverse := by
  induction h with
  | nil => exact .nil
  | cons r t ih => rw [List.reverse_cons, List.reverse_cons]; exact Vals.append ih (.cons r .nil)

section
variable {X : Cx} {pins : List (Addr × Obj)} {σ : St} {H : Hp} {s : Shared} {l b : Addr} {xs ys zs : List V}

/-! ### the two steps: a tracked list is rewritten, a new list is laid -/
theorem Inv.lset {its its' : List Value} {n : Nat} {f : Array Value → Array Value} {t' : Nat} (I : Inv X pins σ H s) (hH : H l = some (.lst xs))
    (e : s.heap.get? l = some { cls := .type "list", data := .seq its.toArray n }) (hf : f its.toArray = its'.toArray) (hv : Vals ys its') (hz : ys.length ≤ sizeLine) :
    Inv X pins σ (upd H l (.lst ys)) { s with heap := s.heap.update l (Obj.mapSeq f), toks := t' } := by
  have q := PySem.IsL.update e f
  rw [hf] at q
  refine I.write (x := l) (e := l) (by rw [hH]; exact trivial) (.inl rfl) (fun b' u hb hu => (Heap.get?_update_other s.heap (Obj.mapSeq f) (Ne.symm hb)).trans hu) ⟨_, q⟩ ?_
  exact ⟨hz, its', _, hv, q⟩
theorem Inv.lnew {its : List Value} {t' : Nat} (I : Inv X pins σ H s) (hv : Vals ys its) (hz : ys.length ≤ sizeLine) :
    Inv X pins σ (upd H s.heap.objs.size (.lst ys)) { s with heap := s.heap.push { cls := .type "list", data := .seq its.toArray }, toks := t' } :=
  I.laid (fun _ _ q => Heap.get?_push_of_some _ q) (Nat.le_refl _) ⟨hz, its, 0, hv, Heap.get?_push_size _ rfl⟩
theorem Inv.fresh (I : Inv X pins σ H s) : H s.heap.objs.size = none := I.hok.fresh (Nat.le_refl _)
theorem Inv.lstM (I : Inv X pins σ H s) (hH : H l = some (.lst xs)) : xs.length ≤ sizeLine ∧ ∃ (its : List Value) (n : Nat), Vals xs its ∧ xs.length = its.length ∧ s.heap.get? l = some { cls := .type "list", data := .seq its.toArray n } := by
  obtain ⟨z, its, n, r, e⟩ := I.hok l _ hH
  exact ⟨z, its, n, r, r.length, e⟩

theorem notLongL {n : Nat} (h : n ≤ sizeLine) : Builtin.List.listTooLong n = false := by
  unfold Builtin.List.listTooLong
  exact decide_eq_false (by omega)
end

section
variable {X : Cx}

/-! ### methods -/
def rAppend : V → List V → Hp → VK → Prop := fun x vs H Q => ∃ l xs y, x = .ref l ∧ vs = [y] ∧ H l = some (.lst xs) ∧ xs.length < sizeLine ∧ Q .non (upd H l (.lst (xs ++ [y])))
theorem mt_append : MtM X "list.append" rAppend := by
  intro pins s σ H x vs v us Q I rx rv h
  obtain ⟨l, xs, y, rfl, rfl, hH, hz, q⟩ := h
  cases rx
  obtain ⟨u, rfl, ru⟩ := rv.one
  obtain ⟨z, its, n, r, hl, e⟩ := I.lstM hH
  refine call_meets F.slot_list_append ⟨_, e, rfl⟩ F.entry_list_append (F.args_list_append_2 _ _) (PySem.list_append l its.toArray n u (by rw [List.size_toArray]; omega)) ⟨e, ?_⟩
  refine ⟨.non, _, I.lset (its' := its ++ [u]) hH e (by simp) (r.append (.cons ru .nil)) ?_, rfl, q⟩
  rw [List.length_append, List.length_singleton]
  omega

def rExtend : V → List V → Hp → VK → Prop := fun x vs H Q => ∃ l b xs zs, x = .ref l ∧ vs = [.ref b] ∧ H l = some (.lst xs) ∧ H b = some (.lst zs) ∧ xs.length + zs.length ≤ sizeLine ∧ Q .non (upd H l (.lst (xs ++ zs)))
theorem mt_extend : MtM X "list.extend" rExtend := by
  intro pins s σ H x vs v us Q I rx rv h
  obtain ⟨l, b, xs, zs, rfl, rfl, hH, hB, hz, q⟩ := h
  cases rx
  obtain ⟨u, rfl, ru⟩ := rv.one
  cases ru
  obtain ⟨z, its, n, r, hl, e⟩ := I.lstM hH
  obtain ⟨z2, its2, n2, r2, hl2, e2⟩ := I.lstM hB
  have hsz : its.toArray.size + its2.toArray.size ≤ sizeLine := by rw [List.size_toArray, List.size_toArray]; omega
  have hlong : ¬ (!its.toArray.isEmpty && Builtin.List.listTooLong (its.toArray.size + its2.toArray.size)) = true := by
    rw [notLongL hsz, Bool.and_false]
    exact Bool.false_ne_true
  refine call_meets F.slot_list_extend ⟨_, e, rfl⟩ F.entry_list_extend (F.args_list_extend_2 _ _)
    (AutoSeq1.list_extend_list_list_0 l its.toArray n b its2.toArray n2 hlong (by rw [List.size_toArray]; omega) (by omega)) ⟨e, e2, ?_⟩
  refine ⟨.non, _, I.lset (its' := its ++ its2) hH e (by simp) (r.append r2) ?_, rfl, q⟩
  rw [List.length_append]
  omega

def rPop : V → List V → Hp → VK → Prop := fun x vs H Q => ∃ l xs y, x = .ref l ∧ vs = [] ∧ H l = some (.lst xs) ∧ xs[xs.length - 1]? = some y ∧ Q y (upd H l (.lst xs.dropLast))

def rPopAt : V → List V → Hp → VK → Prop := fun x vs H Q => ∃ l xs i k y, x = .ref l ∧ vs = [.int i] ∧ H l = some (.lst xs) ∧ -(2 ^ 63) ≤ i ∧ i < 2 ^ 63 ∧ seqIndex? i xs.length = some k ∧ xs[k]? = some y ∧ Q y (upd H l (.lst (xs.eraseIdx k)))

def rReverse : V → List V → Hp → VK → Prop := fun x vs H Q => ∃ l xs, x = .ref l ∧ vs = [] ∧ H l = some (.lst xs) ∧ Q .non (upd H l (.lst xs.reverse))

def rClear : V → List V → Hp → VK → Prop := fun x vs H Q => ∃ l xs, x = .ref l ∧ vs = [] ∧ H l = some (.lst xs) ∧ Q .non (upd H l (.lst []))

/-! ### list + list, list += list, list * int -/
def rCat : R2 := fun x y H Q => ∃ l b xs zs, x = .ref l ∧ y = .ref b ∧ H l = some (.lst xs) ∧ H b = some (.lst zs) ∧ xs.length + zs.length ≤ sizeLine ∧ ∀ p, H p = none → Q (.ref p) (upd H p (.lst (xs ++ zs)))
theorem op_cat : OpR X (binaryOp .Add) rCat := by
  intro pins s σ H x y v u Q I rx ry h
  obtain ⟨l, b, xs, zs, rfl, rfl, hH, hB, hz, q⟩ := h
  cases rx
  cases ry
  obtain ⟨z, its, n, r, hl, e⟩ := I.lstM hH
  obtain ⟨z2, its2, n2, r2, hl2, e2⟩ := I.lstM hB
  refine PySem.P.add_list e e2 ?_ (by rw [List.size_toArray, List.size_toArray]; omega)
  have ea : its.toArray ++ its2.toArray = (its ++ its2).toArray := by simp
  rw [ea]
  exact ⟨.ref _, _, I.lnew (t' := s.toks) (r.append r2) (by rw [List.length_append]; omega), rfl, q _ I.fresh⟩
/-- a list times an int (a negative one is nothing) -/
def rRep : R2 := fun x y H Q => ∃ l k xs, x = .ref l ∧ y = .int k ∧ H l = some (.lst xs) ∧ -(2 ^ 63) ≤ k ∧ k < 2 ^ 63 ∧ xs.length * k.toNat ≤ sizeLine ∧
  ∀ p, H p = none → Q (.ref p) (upd H p (.lst (List.replicate k.toNat xs).flatten))

/-! ### del xs[i] -/
end

/-! ### xs[a:b] = ys -/
section
variable {prog : Program} {w : World} {A : Around} {E : Value → Shared → Prop} {s : Shared}
end

section
variable {X : Cx}
end
end L2

namespace L2
open PySem PySem.Spec PyProof.Rows

theorem Vals.ints : ∀ {ns : List Int} {us : List Value}, Vals (ns.map V.int) us → IntsAre us ns
  | [], us, h => by
    rw [List.map_nil] at h
    cases h
    exact IntsAre.nil
  | n :: ns, us, h => by
    rw [List.map_cons] at h
    cases h with
    | cons r t =>
      obtain ⟨k, rfl⟩ := r
      exact IntsAre.cons n k (Vals.ints t)
theorem vals_of_ints : ∀ {us : List Value} {ns : List Int}, IntsAre us ns → Vals (ns.map V.int) us
  | _, _, .nil => by rw [List.map_nil]; exact Paired.nil
  | _, _, .cons n t h => by rw [List.map_cons]; exact Paired.cons (show RelV (V.int n) (Value.int n t) from ⟨t, rfl⟩) (vals_of_ints h)
theorem Vals.strs : ∀ {xs : List Str} {us : List Value}, Vals (xs.map V.str) us → StrsAre us xs
  | [], us, h => by
    rw [List.map_nil] at h
    cases h
    exact StrsAre.nil
  | x :: xs, us, h => by
    rw [List.map_cons] at h
    cases h with
    | cons r t =>
      obtain ⟨k, rfl⟩ := r
      exact StrsAre.cons x k (Vals.strs t)
theorem Vals.ref1 {a : Addr} {us : List Value} (r : Vals [V.ref a] us) : us = [Value.ref a] := by
  cases r with
  | cons r t =>
    cases t
    cases r
    rfl

/-! ### the library's walks over a list of ints, kept objects alone -/
section
variable {prog : Program} {w : World} {A : Around} {E : Value → Shared → Prop} {s : Shared} {l : Addr} {its : List Value} {ns : List Int} {Q : Value → Shared → Prop}
end

/-! ### the calls, by values (CallR of 03t; MtR of 06l) -/
section
variable {X : Cx}
/-- sum(xs) of a list of ints -/
def rSum (K : PySem.W.Frag) : List V → Hp → VK → Prop := fun vs H Q => ∃ (a : Addr) (ns : List Int), vs = [V.ref a] ∧ SqL K H a (ns.map V.int) ∧ Q (.int ns.sum) H
/-- max(xs), min(xs) of a list of ints -/
def rMax (K : PySem.W.Frag) : List V → Hp → VK → Prop := fun vs H Q => ∃ (a : Addr) (ns : List Int), vs = [V.ref a] ∧ SqL K H a (ns.map V.int) ∧ 0 < ns.length ∧ ∀ m, m ∈ ns → (∀ y, y ∈ ns → y ≤ m) → Q (.int m) H
def rMin (K : PySem.W.Frag) : List V → Hp → VK → Prop := fun vs H Q => ∃ (a : Addr) (ns : List Int), vs = [V.ref a] ∧ SqL K H a (ns.map V.int) ∧ 0 < ns.length ∧ ∀ m, m ∈ ns → (∀ y, y ∈ ns → m ≤ y) → Q (.int m) H

/-! sorted, sort (fewer than 64 items: the library's own bound) -/
def rSorted (K : PySem.W.Frag) : List V → Hp → VK → Prop := fun vs H Q => ∃ (a : Addr) (ns : List Int), vs = [V.ref a] ∧ SqL K H a (ns.map V.int) ∧ ns.length < 64 ∧
  ∀ (ns' : List Int) (p : Addr), ns'.Perm ns → ns'.Pairwise (· ≤ ·) → H p = none → Q (.ref p) (upd H p (.lst (ns'.map V.int)))
def rSortedS (K : PySem.W.Frag) : List V → Hp → VK → Prop := fun vs H Q => ∃ (a : Addr) (xs : List Str), vs = [V.ref a] ∧ SqL K H a (xs.map V.str) ∧ xs.length < 64 ∧
  ∀ (ys : List Str) (p : Addr), ys.Perm xs → sortedS ys = true → H p = none → Q (.ref p) (upd H p (.lst (ys.map V.str)))
/-- xs.sort(), ints -/
def rSort : V → List V → Hp → VK → Prop := fun x xs H Q => ∃ (a : Addr) (ns : List Int), x = V.ref a ∧ xs = [] ∧ H a = some (.lst (ns.map V.int)) ∧ ns.length < 64 ∧
  ∀ ns' : List Int, ns'.Perm ns → ns'.Pairwise (· ≤ ·) → Q .non (upd H a (.lst (ns'.map V.int)))
end

/-! ### list.index, flat items -/
section
variable {X : Cx}
def rIndex (K : PySem.W.Frag) : V → List V → Hp → VK → Prop := fun x xs H Q => ∃ (a : Addr) (ys : List V) (y : V) (j : Nat) (z : V), x = V.ref a ∧ xs = [y] ∧ SqL K H a ys ∧ flatV y = true ∧ ys.all flatV = true ∧ ys[j]? = some z ∧ eqV z y = true ∧
  (∀ (m : Nat) (z' : V), m < j → ys[m]? = some z' → eqV z' y = false) ∧ Q (.int (j : Nat)) H
end

/-! ### type(x) of an own instance; is, is not of a module's class -/
section
variable {X : Cx}
end

/-! ### any(xs), all(xs) of a list of bools -/
section
variable {X : Cx}
def rAny (K : PySem.W.Frag) : List V → Hp → VK → Prop := fun vs H Q => ∃ (a : Addr) (bs : List Bool), vs = [V.ref a] ∧ SqL K H a (bs.map V.bl) ∧ Q (.bl (bs.any id)) H
def rAll (K : PySem.W.Frag) : List V → Hp → VK → Prop := fun vs H Q => ∃ (a : Addr) (bs : List Bool), vs = [V.ref a] ∧ SqL K H a (bs.map V.bl) ∧ Q (.bl (bs.all id)) H
end

/-! ### == and != of data at any depth: none, bools, ints, texts, lists, tuples -/
mutual
inductive Dp (K : PySem.W.Frag) (H : Hp) : V → PyData → Prop
  | non : Dp K H .non .none
  | bl (b : Bool) : Dp K H (.bl b) (.bool b)
  | int (i : Int) : Dp K H (.int i) (.int i)
  | str (x : Str) : Dp K H (.str x) (.str x)
  | lst {a : Addr} {xs : List V} {ds : List PyData} : SqL K H a xs → DpAll K H xs ds → Dp K H (.ref a) (.list ds)
  | tup {a : Addr} {xs : List V} {ds : List PyData} : SqT K H a xs → DpAll K H xs ds → Dp K H (.ref a) (.tuple ds)
inductive DpAll (K : PySem.W.Frag) (H : Hp) : List V → List PyData → Prop
  | nil : DpAll K H [] []
  | cons {v : V} {vs : List V} {d : PyData} {ds : List PyData} : Dp K H v d → DpAll K H vs ds → DpAll K H (v :: vs) (d :: ds)
end
section
variable {X : Cx} {pins : List (Addr × Obj)} {σ : St} {H : Hp} {s : Shared}
mutual
theorem Dp.reads (I : Inv X pins σ H s) : ∀ (d : PyData) (v : V) (u : Value), Dp X.K H v d → RelV v u → ∃ as, Reads s.heap u d as
  | .none, _, _, h, r => by
    cases h
    cases r
    exact ⟨_, Reads.none⟩
  | .bool b, _, _, h, r => by
    cases h
    cases r
    exact ⟨_, Reads.bool b⟩
  | .int i, _, _, h, r => by
    cases h
    obtain ⟨t, rfl⟩ := r
    exact ⟨_, Reads.int i t⟩
  | .str x, _, _, h, r => by
    cases h
    obtain ⟨t, rfl⟩ := r
    exact ⟨_, Reads.str x t⟩
  | .list ds, _, _, h, r => by
    cases h with
    | lst hs ha =>
      cases r
      obtain ⟨its, rv, ⟨o, n, ho, hc, _, hd⟩, _⟩ := I.list hs
      obtain ⟨as, hr⟩ := Dp.readsAll I ds _ its ha rv
      exact ⟨_, Reads.list ho hc hd hr⟩
  | .tuple ds, _, _, h, r => by
    cases h with
    | tup hs ha =>
      cases r
      obtain ⟨its, rv, ⟨o, ho, hc, n, hd⟩, _⟩ := I.tuple hs
      obtain ⟨as, hr⟩ := Dp.readsAll I ds _ its ha rv
      exact ⟨_, Reads.tuple ho hc hd hr⟩
  | .dict _, _, _, h, _ => by cases h
theorem Dp.readsAll (I : Inv X pins σ H s) : ∀ (ds : List PyData) (vs : List V) (us : List Value), DpAll X.K H vs ds → Vals vs us → ∃ as, ReadsAll s.heap us ds as
  | [], _, _, h, r => by
    cases h
    cases r
    exact ⟨_, ReadsAll.nil⟩
  | d :: ds, _, _, h, r => by
    cases h with
    | cons h1 h2 =>
      cases r with
      | cons r1 r2 =>
        obtain ⟨as, q1⟩ := Dp.reads I d _ _ h1 r1
        obtain ⟨bs, q2⟩ := Dp.readsAll I ds _ _ h2 r2
        exact ⟨_, ReadsAll.cons q1 q2⟩
end
end
section
variable {X : Cx}
def rEqD (K : PySem.W.Frag) : R2 := fun x y H Q => ∃ d e, Dp K H x d ∧ Dp K H y e ∧ SeqAt.shaped d = true ∧ SeqAt.shaped e = true ∧ Q (.bl (PyData.eqv d e)) H
def rNeD (K : PySem.W.Frag) : R2 := fun x y H Q => ∃ d e, Dp K H x d ∧ Dp K H y e ∧ SeqAt.shaped d = true ∧ SeqAt.shaped e = true ∧ Q (.bl (!PyData.eqv d e)) H
end
end L2

namespace L2
open PySem PySem.Spec PyProof.Rows
abbrev CellAt (h : Heap) (c : Addr) (v : Option Value) : Prop := h.IsCell c v
def relS (scope sc : Scope) : Scope :=
  { scope with names := scope.names.map fun (n, k) => if (k == .free && sc.kind == .function && sc.names.lookup n == some .cell) then (n, .cell) else (n, k) }

def cloFrom (cells : List (Str × Addr)) : List (Str × NameKind) → List (Str × Addr) → List (Str × Addr)
  | [], acc => acc
  | (n, k) :: r, acc => if k == .free then cloFrom cells r ((n, (cells.lookup n).getD 0) :: acc) else cloFrom cells r acc

theorem closure_loop (env : Env) (f : Str × NameKind → List (Str × Addr) → Sem (ForInStep (List (Str × Addr))))
    (hf : ∀ n k c, f (n, k) c = if k == .free then (do let a ← cellOf env n; pure (.yield ((n, a) :: c))) else pure (.yield c)) :
    ∀ (names : List (Str × NameKind)) (acc : List (Str × Addr)), (∀ y ∈ names, y.2 = .free → ∃ c, env.cells.lookup y.1 = some c) → forIn names acc f = pure (cloFrom env.cells names acc)
  | [], acc, _ => by rw [List.forIn_nil]; rfl
  | (n, k) :: r, acc, h => by
    rw [List.forIn_cons, hf]
    have ih := fun acc => closure_loop env f hf r acc fun y hy => h y (List.mem_cons_of_mem _ hy)
    unfold cloFrom
    by_cases hk : (k == NameKind.free) = true
    · rw [if_pos hk, if_pos hk]
      obtain ⟨c, hc⟩ := h (n, k) List.mem_cons_self (by simpa using hk)
      have e : cellOf env n = pure c := by unfold cellOf; rw [hc]
      rw [e]
      have e2 : (env.cells.lookup n).getD 0 = c := by rw [hc]; rfl
      rw [e2]
      exact ih _
    · rw [if_neg hk, if_neg hk]
      exact ih _
theorem closure_ok {scope : Scope} {env : Env} (h : ∀ y ∈ scope.names, y.2 = .free → ∃ c, env.cells.lookup y.1 = some c) : closureFor scope env = pure (cloFrom env.cells scope.names []) := by
  simp only [closureFor]
  rw [closure_loop env _ (fun n k c => rfl) scope.names [] h]
  rfl

theorem mem_lookup {α : Type} : ∀ {l : List (Str × α)} {n : Str} {c : α}, (n, c) ∈ l → ∃ c', l.lookup n = some c'
  | (k, v) :: r, n, c, h => by
    rw [List.lookup_cons]
    cases hb : n == k with
    | true => exact ⟨_, rfl⟩
    | false =>
      rcases List.mem_cons.mp h with e | h
      · cases e; simp at hb
      · exact mem_lookup h

theorem cloFrom_mem {cells : List (Str × Addr)} : ∀ {names : List (Str × NameKind)} {acc : List (Str × Addr)} {n : Str} {c : Addr}, (n, c) ∈ cloFrom cells names acc → (n, c) ∈ acc ∨ ((n, .free) ∈ names ∧ c = (cells.lookup n).getD 0)
  | [], _, _, _, h => .inl h
  | (m, k) :: r, acc, n, c, h => by
    unfold cloFrom at h
    split at h
    · rename_i hk
      have hk : k = .free := by simpa using hk
      rcases cloFrom_mem h with h | ⟨h1, h2⟩
      · rcases List.mem_cons.mp h with e | h
        · cases e; exact .inr ⟨hk ▸ List.mem_cons_self, rfl⟩
        · exact .inl h
      · exact .inr ⟨List.mem_cons_of_mem _ h1, h2⟩
    · rcases cloFrom_mem h with h | ⟨h1, h2⟩
      · exact .inl h
      · exact .inr ⟨List.mem_cons_of_mem _ h1, h2⟩
theorem cloFrom_acc {cells : List (Str × Addr)} : ∀ {names : List (Str × NameKind)} {acc : List (Str × Addr)} {p : Str × Addr}, p ∈ acc → p ∈ cloFrom cells names acc
  | [], _, _, h => h
  | (m, k) :: r, acc, p, h => by
    unfold cloFrom
    split
    · exact cloFrom_acc (List.mem_cons_of_mem _ h)
    · exact cloFrom_acc h
theorem cloFrom_has {cells : List (Str × Addr)} : ∀ {names : List (Str × NameKind)} {acc : List (Str × Addr)} {n : Str}, (n, .free) ∈ names → (n, (cells.lookup n).getD 0) ∈ cloFrom cells names acc
  | (m, k) :: r, acc, n, h => by
    unfold cloFrom
    rcases List.mem_cons.mp h with e | h
    · cases e
      exact cloFrom_acc List.mem_cons_self
    · split
      · exact cloFrom_has h
      · exact cloFrom_has h

theorem cells_mem : ∀ {names : List (Str × NameKind)} {h : Heap} {acc : List (Str × Addr)} {x : Str} {c : Addr}, (x, c) ∈ cellsFrom h.objs.size names acc →
    (x, c) ∈ acc ∨ ((x, .cell) ∈ names ∧ h.objs.size ≤ c ∧ CellAt (pushCells h names) c none)
  | [], _, _, _, _, h => .inl h
  | (n, k) :: r, h, acc, x, c, hm => by
    unfold cellsFrom at hm
    unfold pushCells
    split at hm
    · rename_i hk
      rw [if_pos hk]
      have hk : k = .cell := by simpa using hk
      rw [← Heap.size_push h { cls := .type "cell", data := .cell none }] at hm
      rcases cells_mem hm with hm | ⟨h1, h2, h3⟩
      · rcases List.mem_cons.mp hm with e | hm
        · cases e
          exact .inr ⟨hk ▸ List.mem_cons_self, Nat.le_refl _, _, pushCells_keeps r _ _ _ (Heap.get?_push_size _ rfl), rfl⟩
        · exact .inl hm
      · rw [Heap.size_push] at h2
        exact .inr ⟨List.mem_cons_of_mem _ h1, Nat.le_of_succ_le h2, h3⟩
    · rename_i hk
      rw [if_neg hk]
      rcases cells_mem hm with hm | ⟨h1, h2, h3⟩
      · exact .inl hm
      · exact .inr ⟨List.mem_cons_of_mem _ h1, h2, h3⟩
theorem cells_acc : ∀ {names : List (Str × NameKind)} {n : Nat} {acc : List (Str × Addr)} {p : Str × Addr}, p ∈ acc → p ∈ cellsFrom n names acc
  | [], _, _, _, h => h
  | (m, k) :: r, n, acc, p, h => by
    unfold cellsFrom
    split
    · exact cells_acc (List.mem_cons_of_mem _ h)
    · exact cells_acc h
theorem cells_has : ∀ {names : List (Str × NameKind)} {n : Nat} {acc : List (Str × Addr)} {x : Str}, (x, .cell) ∈ names → ∃ c, (x, c) ∈ cellsFrom n names acc
  | (m, k) :: r, n, acc, x, h => by
    unfold cellsFrom
    rcases List.mem_cons.mp h with e | h
    · cases e
      exact ⟨n, cells_acc List.mem_cons_self⟩
    · split
      · exact cells_has h
      · exact cells_has h
theorem cells_inj : ∀ {names : List (Str × NameKind)} {h : Heap} {acc : List (Str × Addr)} {x y : Str} {c : Addr}, (∀ p ∈ acc, p.2 < h.objs.size) → (∀ x y c, (x, c) ∈ acc → (y, c) ∈ acc → x = y) →
    (x, c) ∈ cellsFrom h.objs.size names acc → (y, c) ∈ cellsFrom h.objs.size names acc → x = y
  | [], _, _, _, _, _, _, hi, h1, h2 => hi _ _ _ h1 h2
  | (n, k) :: r, h, acc, x, y, c, hl, hi, h1, h2 => by
    unfold cellsFrom at h1 h2
    split at h1
    · rename_i hk
      rw [if_pos hk] at h2
      rw [← Heap.size_push h { cls := .type "cell", data := .cell none }] at h1 h2
      refine cells_inj (h := h.push _) (fun p hp => ?_) (fun x y c a b => ?_) h1 h2
      · rw [Heap.size_push]
        rcases List.mem_cons.mp hp with rfl | hp
        · exact Nat.lt_succ_self _
        · exact Nat.lt_succ_of_lt (hl p hp)
      · rcases List.mem_cons.mp a with e | a <;> rcases List.mem_cons.mp b with e' | b
        · cases e; cases e'; rfl
        · cases e; exact absurd (hl _ b) (Nat.lt_irrefl _)
        · cases e'; exact absurd (hl _ a) (Nat.lt_irrefl _)
        · exact hi _ _ _ a b
    · rename_i hk
      rw [if_neg hk] at h2
      exact cells_inj hl hi h1 h2

theorem newEnv_comp {M : Model} {A : Around} {E : Value → Shared → Prop} {s : Shared} {scope : Scope} {globals : Addr} {closure : List (Str × Addr)} {qual : Str} {func : Option Addr} {code : Value} {around : Env} {builtins : Addr} {Q : Env → Shared → Prop}
    (h : Q (newEnv scope s.heap.objs.size globals (cellsFrom (s.heap.objs.size + 1) scope.names closure) qual func code (some around) builtins)
      { s with heap := pushCells (s.heap.push { cls := .type "dict", data := .dict #[] }) scope.names }) :
    wpAny M A (newFunctionEnv scope globals closure [] qual func code (some around) builtins) Q E s := by
  simp only [newFunctionEnv, Option.isSome_some, if_true]
  refine wpAny_bind (wpAny_alloc ?_)
  refine wpAny_bind (wpAny_layCells _ (fun n k c => rfl) scope.names closure _ _ ?_)
  rw [show ({ s with heap := s.heap.push { cls := .type "dict", data := .dict #[] } } : Shared).heap.objs.size = s.heap.objs.size + 1 from Heap.size_push ..]
  rw [List.forIn_nil]
  exact wpAny_bind (wpAny_pure (wpAny_pure h))

/-- every name of the written scope, in the scope that runs -/
theorem lookup_relS {sc : Scope} : ∀ {names : List (Str × NameKind)} {x : Str} {k : NameKind},
    (names.map fun (n, k) => if (k == NameKind.free && sc.kind == .function && sc.names.lookup n == some .cell) then (n, NameKind.cell) else (n, k)).lookup x = some k →
    ∃ k', names.lookup x = some k' ∧ (k = k' ∨ (k' = .free ∧ k = .cell))
  | [], _, _, h => by simp at h
  | (n, k₀) :: r, x, k, h => by
    have ih := @lookup_relS sc r x k
    have h' : List.lookup x ((if (k₀ == NameKind.free && sc.kind == .function && sc.names.lookup n == some .cell) = true then (n, NameKind.cell) else (n, k₀)) :: (r.map _)) = some k := h
    cases hx : x == n with
    | true =>
      simp only [List.lookup_cons, hx]
      by_cases hc : (k₀ == NameKind.free && sc.kind == .function && sc.names.lookup n == some .cell) = true
      · rw [if_pos hc] at h'
        simp only [List.lookup_cons, hx] at h'
        cases h'
        simp only [Bool.and_eq_true, beq_iff_eq] at hc
        exact ⟨k₀, rfl, .inr ⟨hc.1.1, rfl⟩⟩
      · rw [if_neg hc] at h'
        simp only [List.lookup_cons, hx] at h'
        cases h'
        exact ⟨_, rfl, .inl rfl⟩
    | false =>
      simp only [List.lookup_cons, hx]
      by_cases hc : (k₀ == NameKind.free && sc.kind == .function && sc.names.lookup n == some .cell) = true
      · rw [if_pos hc] at h'
        simp only [List.lookup_cons, hx] at h'
        exact ih h'
      · rw [if_neg hc] at h'
        simp only [List.lookup_cons, hx] at h'
        exact ih h'



/-- the names of a comprehension's block: its own (with their places in N), or captured -/
structure BlkOk (N : List Str) (sc scope : Scope) (own : List (Str × Nat)) : Prop where
  kind : scope.kind = .function
  uniq : ∀ y ∈ scope.names, scope.names.lookup y.1 = some y.2
  ix : ∀ p ∈ own, N[p.2]? = some p.1
  free : ∀ y ∈ scope.names, y.2 = .free → sc.names.lookup y.1 = some .cell ∨ sc.names.lookup y.1 = some .free
  own : ∀ y ∈ scope.names, y.2 = .local ∨ y.2 = .cell → y.1 ∈ own.map (·.1) ∨ y.1 ∉ N
/-- the slots of the block's own names forgotten -/
def wipe (σ : St) : List Nat → St
  | [] => σ
  | v :: vs => (wipe σ vs).set v none
theorem wipe_length (σ : St) : ∀ vs : List Nat, (wipe σ vs).length = σ.length
  | [] => rfl
  | v :: vs => by unfold wipe; rw [List.length_set, wipe_length σ vs]
theorem wipe_some {σ : St} {i : Nat} {x : V} : ∀ {vs : List Nat}, (wipe σ vs)[i]? = some (some x) → σ[i]? = some (some x) ∧ i ∉ vs
  | [], h => ⟨h, by simp⟩
  | v :: vs, h => by
    unfold wipe at h
    by_cases hi : v = i
    · subst hi
      by_cases hv : v < (wipe σ vs).length
      · rw [List.getElem?_set_self hv] at h; cases h
      · rw [List.getElem?_eq_none (by simpa using hv)] at h; cases h
    · rw [List.getElem?_set_ne hi] at h
      obtain ⟨h1, h2⟩ := wipe_some h
      exact ⟨h1, by simp only [List.mem_cons, not_or]; exact ⟨fun e => hi e.symm, h2⟩⟩

/-- the context of a block that starts at s, its iterator's objects at fp -/
abbrev Cx.blk (X : Cx) (s : Shared) (H : Hp) (scope : Scope) (cenv : Env) (fp : List Addr) : Cx := { X with s_0 := s, H_0 := H, env := cenv, outer := X.stack, ex := fp, fn := fun x => scope.names.lookup x == some .cell, pn := [], xe := fun _ _ => False }
section
variable {X : Cx} {pins : List (Addr × Obj)} {σ : St} {H : Hp} {s : Shared}
theorem block_start {scope : Scope} {own : List (Str × Nat)} {fp : List Addr} (I : Inv X pins σ H s) (ok : BlkOk X.N X.env.scope scope own) (hN : X.N.Nodup) (hfp : ∀ b ∈ fp, FpOk X pins H b ∧ b < s.heap.objs.size) :
    Inv (X.blk s H scope (compEnvC scope (cellsFrom (s.heap.objs.size + 1) scope.names (cloFrom X.env.cells scope.names [])) s.heap.objs.size X.env) fp) [] (wipe σ (own.map (·.2))) H { s with heap := pushCells (s.heap.push { cls := .type "dict", data := .dict #[] }) scope.names } := by
  have hfree : ∀ y ∈ scope.names, y.2 = .free → ∃ c, X.env.cells.lookup y.1 = some c := fun y hy e => by
    rcases ok.free y hy e with k | k
    · exact I.ok.has _ (.inl k)
    · exact I.ok.has _ (.inr k)
  generalize hcenv : compEnvC scope (cellsFrom (s.heap.objs.size + 1) scope.names (cloFrom X.env.cells scope.names [])) s.heap.objs.size X.env = cenv
  have kp : ∀ b o, s.heap.get? b = some o → (pushCells (s.heap.push { cls := .type "dict", data := .dict #[] }) scope.names).get? b = some o := fun b o e => pushCells_keeps _ _ _ _ (Heap.get?_push_of_some _ e)
  have hL : cenv.locals = s.heap.objs.size := by rw [← hcenv]; rfl
  have hcl : cenv.cells = cellsFrom (s.heap.objs.size + 1) scope.names (cloFrom X.env.cells scope.names []) := by rw [← hcenv]; rfl
  have hsc : cenv.scope = relS scope X.env.scope := by rw [← hcenv]; rfl
  rw [← Heap.size_push s.heap { cls := .type "dict", data := .dict #[] }] at hcl
  have cm : ∀ {y c}, (y, c) ∈ cloFrom X.env.cells scope.names [] → X.env.cells.lookup y = some c ∧ c < s.heap.objs.size := fun {y c} hm => by
    rcases cloFrom_mem hm with hm | ⟨h1, rfl⟩
    · cases hm
    · obtain ⟨c, hc⟩ := hfree _ h1 rfl
      rw [hc]
      obtain ⟨w, z⟩ := I.cell _ _ hc
      exact ⟨rfl, z.lt⟩
  have mem : ∀ {y c}, cenv.cells.lookup y = some c → (X.env.cells.lookup y = some c ∧ c < s.heap.objs.size) ∨ (s.heap.objs.size + 1 ≤ c ∧ CellAt (pushCells (s.heap.push { cls := .type "dict", data := .dict #[] }) scope.names) c none) := fun {y c} e => by
    rw [hcl] at e
    rcases cells_mem (PySem.mem_of_lookup e) with hm | ⟨_, h2, h3⟩
    · exact .inl (cm hm)
    · rw [Heap.size_push] at h2; exact .inr ⟨h2, h3⟩
  have look : ∀ {y}, scope.names.lookup y = some .free → ∃ c, cenv.cells.lookup y = some c ∧ X.env.cells.lookup y = some c := fun {y} hl => by
    have hy : (y, NameKind.free) ∈ scope.names := PySem.mem_of_lookup hl
    obtain ⟨c', e'⟩ := mem_lookup (cells_acc (names := scope.names) (n := (s.heap.push { cls := .type "dict", data := .dict #[] }).objs.size) (cloFrom_has (cells := X.env.cells) (acc := []) hy))
    rw [← hcl] at e'
    refine ⟨c', e', ?_⟩
    rw [hcl] at e'
    rcases cells_mem (PySem.mem_of_lookup e') with hm | ⟨h1, _, _⟩
    · exact (cm hm).1
    · have := ok.uniq _ h1
      rw [hl] at this; cases this
  have okB : (X.blk s H scope cenv fp).Ok := by
    refine ⟨I.ok.mod, by show cenv.scope.kind = _; rw [hsc]; exact ok.kind, by show cenv.globals = _; rw [← hcenv]; exact I.ok.glob, by show cenv.builtins = _; rw [← hcenv]; exact I.ok.blt, by show s.heap.objs.size ≤ cenv.locals; rw [hL]; exact Nat.le_refl _,
      fun y z c e1 e2 => ?_, fun y hy => ?_, fun y c z e => ?_, I.ok.hd, I.ok.frames, .inl rfl, fun b hb => ⟨?_, fun y c e z => ?_⟩, I.bs, Nat.le_trans I.ok.bsz I.sz, fun b o e hb => ?_, fun b hb z => ?_, I.stack, I.stkFree⟩
    · have e1 : cenv.cells.lookup y = some c := e1
      have e2 : cenv.cells.lookup z = some c := e2
      rw [hcl] at e1 e2
      refine cells_inj (fun p hp => ?_) (fun y z c a b => I.ok.inj y z c (cm a).1 (cm b).1) (PySem.mem_of_lookup e1) (PySem.mem_of_lookup e2)
      rw [Heap.size_push]
      exact Nat.lt_succ_of_lt (cm (y := p.1) (c := p.2) hp).2
    · show ∃ c, cenv.cells.lookup y = some c
      have key : ∀ k, cenv.kindOf y = some k → (k = .cell ∨ k = .free) → ∃ c, cenv.cells.lookup y = some c := fun k hk hk' => by
        unfold Env.kindOf at hk
        rw [hsc] at hk
        obtain ⟨k', e, r⟩ := lookup_relS hk
        have : k' = .cell ∨ k' = .free := by
          rcases r with rfl | ⟨rfl, _⟩
          · exact hk'
          · exact .inr rfl
        rcases this with rfl | rfl
        · obtain ⟨c, hm⟩ := cells_has (n := (s.heap.push { cls := .type "dict", data := .dict #[] }).objs.size) (acc := cloFrom X.env.cells scope.names []) (PySem.mem_of_lookup e)
          obtain ⟨c', e'⟩ := mem_lookup hm
          exact ⟨c', by rw [hcl]; exact e'⟩
        · obtain ⟨c, h1, _⟩ := look e
          exact ⟨c, h1⟩
      rcases hy with hy | hy
      · exact key _ hy (.inl rfl)
      · exact key _ hy (.inr rfl)
    · have z : (scope.names.lookup y == some NameKind.cell) = true := z
      have z : scope.names.lookup y = some .cell := by simpa using z
      have e : cenv.cells.lookup y = some c := e
      rw [hcl] at e
      rcases cells_mem (PySem.mem_of_lookup e) with hm | ⟨_, h2, _⟩
      · rcases cloFrom_mem hm with hm | ⟨h1, _⟩
        · cases hm
        · have q := ok.uniq _ h1
          rw [z] at q; cases q
      · rw [Heap.size_push] at h2
        exact Nat.le_of_succ_le h2
    · show b ≠ cenv.locals
      rw [hL]; exact Nat.ne_of_lt (hfp b hb).2
    · have e : cenv.cells.lookup y = some c := e
      rcases mem e with ⟨h1, _⟩ | ⟨h1, _⟩
      · exact (hfp b hb).1.2.2.2.2.1 y c h1 z
      · have h2 : s.heap.objs.size + 1 ≤ b := by rw [← z]; exact h1
        exact absurd (Nat.lt_of_lt_of_le (hfp b hb).2 (Nat.le_of_succ_le h2)) (Nat.lt_irrefl _)
    · rcases (hfp b hb).1.2.2.2.1 with z | z
      · exact I.ok.noex b o e z
      · exact absurd (Nat.lt_of_lt_of_le (Heap.lt_size e) (Nat.le_trans I.ok.bsz z)) (Nat.lt_irrefl _)
    · rcases List.mem_cons.mp (I.stkSub b z) with z | z
      · exact (hfp b hb).1.2.1 z
      · exact (hfp b hb).1.2.2.1 z
  refine ⟨okB, rfl, I.bare, Un.kept kp, ⟨fun _ => none, ?_, fun i y av e1 e2 e3 => ?_⟩, fun y c e => ?_, ?_, fun y c e => ?_, fun p hp => ?_, I.hok.kept kp, by rw [wipe_length]; exact I.len⟩
  · show Heap.Ns _ cenv.locals _
    rw [hL]
    exact Heap.Ns.keeps (Heap.Ns.new ..) fun b o e => pushCells_keeps _ _ _ _ e
  · obtain ⟨e2, hne⟩ := wipe_some e2
    have hfr : scope.names.lookup y = some .free ∧ (cenv.kindOf y = some .cell ∨ cenv.kindOf y = some .free) := by
      have key : ∀ k, cenv.scope.names.lookup y = some k → k = .local ∨ k = .cell ∨ k = .free → scope.names.lookup y = some .free ∧ (cenv.kindOf y = some .cell ∨ cenv.kindOf y = some .free) := fun k hk hk' => by
        have hk0 := hk
        rw [hsc] at hk
        obtain ⟨k', e, r⟩ := lookup_relS hk
        have no : ¬ (k' = .local ∨ k' = .cell) := fun hh => by
          rcases ok.own _ (PySem.mem_of_lookup e) hh with e' | e'
          · obtain ⟨p, hp, hpy⟩ := List.mem_map.mp e'
            have e3 := ok.ix p hp
            have : p.1 = y := hpy
            rw [this] at e3
            exact hne (List.mem_map.mpr ⟨p, hp, nodup_ix hN e3 e1⟩)
          · exact e' (List.mem_of_getElem? e1)
        rcases r with rfl | ⟨rfl, rfl⟩
        · rcases hk' with rfl | rfl | rfl
          · exact absurd (.inl rfl) no
          · exact absurd (.inr rfl) no
          · exact ⟨e, .inr hk0⟩
        · exact ⟨e, .inl hk0⟩
      have e3 : Vis cenv.scope y := e3
      rcases e3 with e3 | e3 | e3
      · exact key _ e3 (.inl rfl)
      · exact key _ e3 (.inr (.inl rfl))
      · exact key _ e3 (.inr (.inr rfl))
    obtain ⟨m, hn, hl⟩ := I.loc
    have hvis : Vis X.env.scope y := (ok.free _ (PySem.mem_of_lookup hfr.1) rfl).elim (fun k => .inr (.inl k)) (fun k => .inr (.inr k))
    obtain ⟨w, r, q⟩ := hl i y av e1 e2 hvis
    refine ⟨w, r, .inr ⟨hfr.2, ?_⟩⟩
    obtain ⟨c, h1, h2⟩ := look hfr.1
    rcases q with ⟨k, _⟩ | ⟨_, c', e', z⟩
    · have k : X.env.scope.names.lookup y = some .local := k
      rcases ok.free _ (PySem.mem_of_lookup hfr.1) rfl with k' | k' <;> rw [show X.env.scope.names.lookup y = _ from k'] at k <;> cases k
    · rw [h2] at e'; cases e'
      exact ⟨c, h1, z.keeps kp⟩
  · have e : cenv.cells.lookup y = some c := e
    rcases mem e with ⟨h1, _⟩ | ⟨_, z⟩
    · obtain ⟨w, z⟩ := I.cell y c h1
      exact ⟨w, z.keeps kp⟩
    · exact ⟨_, z⟩
  · show H cenv.locals = none
    rw [hL]; exact I.hok.fresh (Nat.le_refl _)
  · have e : cenv.cells.lookup y = some c := e
    rcases mem e with ⟨h1, _⟩ | ⟨h1, _⟩
    · exact I.freeC y c h1
    · exact I.hok.fresh (Nat.le_of_succ_le h1)
  · exact absurd (show p ∈ ([] : List (Addr × Obj)) ++ [] from hp) (by simp)

/-- an item appended to a tracked list -/
theorem app_ok {E : Value → Shared → Prop} {D : Addr} {xs : List V} {y : V} {v : Value} {Q : Value → Shared → Prop} (I : Inv X pins σ H s) (hD : H D = some (.lst xs)) (hz : xs.length < sizeLine) (r : RelV y v)
    (h : ∀ s', Inv X pins σ (upd H D (.lst (xs ++ [y]))) s' → Q .none s') : wpAny (model X.prog X.w) X.A (call (.builtin "list.append") [.ref D, v]) Q E s := by
  obtain ⟨hz', its, n, ri, e⟩ := I.hok D _ hD
  have hl := ri.length
  refine append_at (hsz := by rw [List.size_toArray]; omega) e fun h' sb ho' => ?_
  refine h { s with heap := h' } (I.write (t' := s.toks) (by rw [hD]; trivial) (.inl rfl) (fun b u hb q => (sb.2 b hb).trans q) ⟨_, ho'⟩ ⟨by rw [List.length_append]; exact hz, its ++ [v], n + 1, ri.append (.cons r .nil), ?_⟩)
  rw [ho']
  simp

/-- a clause's tests -/
def PTs (X : Cx) (ifs : List Expr) (t : TT) : Prop :=
  ∀ (pins : List (Addr × Obj)) (s : Shared) (σ : St) (H : Hp) (Q : Bool → Hp → Prop), Inv X pins σ H s → t σ H Q →
    wpAny (model X.prog X.w) X.A (forIn ifs true fun c r => if r = true then do let ok ← isTrue c X.env (eval c X.env); pure (ForInStep.yield ok) else pure (ForInStep.yield r)) (TP X pins σ Q) X.xe s
def tYes : TT := fun _ H Q => Q true H
theorem pts_nil : PTs X [] tYes := fun _ _ _ H _ I h => wpAny_tests_nil ⟨H, I, h⟩
theorem pts_one {c : Expr} {t : TT} (h : PT X c t) : PTs X [c] t := fun pins s σ H Q I hw => wpAny_tests_one (h pins s σ H Q I hw)
end

theorem thnF {α : Type} {t : Sem α} {Q Q' : α → Shared → Prop} {M : Model} {A : Around} {E : Value → Shared → Prop} {s : Shared} (h : wpAny M A t Q (fun _ _ => False) s) (hQ : ∀ a s, Q a s → Q' a s) : wpAny M A t Q' E s := wpAny_mono h hQ fun _ _ z => False.elim z

/-- the loop of a list comprehension's block, the target of any form (codeAny_compLoop_tests asks a target that no tuple goes to; statement and proof follow it, PyProof/CompMap.lean:41-61, with the step letOwnedTupleGo kept) -/
theorem compLoop_any {prog : Program} {w : World} {A : Around} {R : Result → Shared → Prop} {s : Shared} {elt target iter : Expr} {ifs : List Expr} {scope : Scope} {pos : Pos} {it acc : Value} {env : Env} (I : Nat → Shared → Prop)
    (turn : ∀ n s, I n s → wpAny (model prog w) A (pyNext it) (fun r s₁ => match r with
      | none => R (.ok .next) s₁
      | some v => wpAny (model prog w) A (letOwnedTupleGo target it v) (fun _ s₁' => wpAny (model prog w) A (assign target env v) (fun _ s₂ =>
          wpAny (model prog w) A (forIn ifs true fun c r => if r = true then do let ok ← isTrue c env (eval c env); pure (ForInStep.yield ok) else pure (ForInStep.yield r)) (fun ok s₃ =>
            if ok = true then wpAny (model prog w) A (eval elt env) (fun x s₄ =>
              wpAny (model prog w) A (call (.builtin "list.append") [acc, x]) (fun _ s₅ => ∃ m, m < n ∧ I m s₅) (notedBy (model prog w) A env fun e s' => R (.error e) s') s₄) (notedBy (model prog w) A env fun e s' => R (.error e) s') s₃
            else ∃ m, m < n ∧ I m s₃) (notedBy (model prog w) A env fun e s' => R (.error e) s') s₂) (notedBy (model prog w) A env fun e s' => R (.error e) s') s₁') (notedBy (model prog w) A env fun e s' => R (.error e) s') s₁) (notedBy (model prog w) A env fun e s' => R (.error e) s') s)
    (n : Nat) (h : I n s) :
    codeAny (model prog w) A (.compLoop (.ListComp elt [⟨target, iter, ifs, 0⟩] scope pos) 0 it acc env) R s := by
  refine codeAny_loop rfl I (fun n s hI => ?_) n h
  show wpAny _ A ((compTurn (.ListComp elt [⟨target, iter, ifs, 0⟩] scope pos) 0 it acc env).onRaise (fun x => do noteFrame x env; theTreesLotGoes x)) _ _ s
  refine wpAny_noted ?_
  rw [compTurn_list]
  refine wpAny_bind (wpAny_standAt (wpAny_bind (wpAny_mono (turn n s hI) (fun r s₁ h₁ => ?_) fun _ _ h' => h')))
  cases r with
  | none => exact wpAny_pure h₁
  | some v =>
    refine wpAny_bind (wpAny_mono h₁ (fun _ s₁' h₁' => ?_) fun _ _ h' => h')
    refine wpAny_bind (wpAny_mono h₁' (fun _ s₂ h₂ => wpAny_bind (wpAny_mono h₂ (fun ok s₃ h₃ => ?_) fun _ _ h' => h')) fun _ _ h' => h')
    cases ok with
    | false => exact wpAny_pure ⟨rfl, h₃⟩
    | true =>
      exact wpAny_bind (wpAny_bind (wpAny_mono h₃ (fun x s₄ h₄ => wpAny_bind (wpAny_mono h₄ (fun _ s₅ h₅ => wpAny_pure (wpAny_pure ⟨rfl, h₅⟩)) fun _ _ h' => h')) fun _ _ h' => h'))

section
variable {X : Cx}
/-- [elt for target in iter if ..]: D the new list; W by the turn and a measure, Nx what a turn is to reach -/
def tLc (wi : TI) (g : TG) (tt : TT) (te : TE) (vs : List Nat) : TE := fun σ H Q => wi σ H fun J H1 => ∀ D, H1 D = none → ∃ W : Nat → Nat → Hp → Prop, (∃ m, W 0 m (upd H1 D (.lst []))) ∧ ∀ i m H, W i m H →
  (J.stop i H ∧ Q (.ref D) H) ∨ (J.go i H ∧ ∃ Nx : Hp → Prop, (∀ H', Nx H' → ∃ m', m' < m ∧ W (i + 1) m' H') ∧ ∀ x H', J.yld i H x H' → g x (wipe σ vs) H' fun σ2 H2 => wipe σ2 vs = wipe σ vs ∧ tt σ2 H2 fun b H3 =>
    if b = true then te σ2 H3 fun y H4 => ∃ acc, H4 D = some (.lst acc) ∧ acc.length < sizeLine ∧ Nx (upd H4 D (.lst (acc ++ [y]))) else Nx H3)
theorem lc_core {pins : List (Addr × Obj)} {s : Shared} {σ : St} {H : Hp} {Q : VK} {elt tg iter : Expr} {ifs : List Expr} {scope : Scope} {own : List (Str × Nat)} {pos pos' : Pos} {wi : TI} {g : TG} {tt : TT} {te : TE} {use : Option (Value → Sem Unit)} {Qf : Value → Shared → Prop}
    (hc : X.calm = true) (hN : X.N.Nodup) (I : Inv X pins σ H s) (hi : PI X tg iter wi) (ok : BlkOk X.N X.env.scope scope own)
    (hg : ∀ (s : Shared) (H : Hp) (C : Addr) (cl : List (Str × Addr)) (fp : List Addr), PG (X.blk s H scope (compEnvC scope cl C X.env) fp) tg g) (ht : ∀ (s : Shared) (H : Hp) (C : Addr) (cl : List (Str × Addr)) (fp : List Addr), PTs (X.blk s H scope (compEnvC scope cl C X.env) fp) ifs tt)
    (he : ∀ (s : Shared) (H : Hp) (C : Addr) (cl : List (Str × Addr)) (fp : List Addr), PE (X.blk s H scope (compEnvC scope cl C X.env) fp) elt te) (hs : ∀ x, foldedSetIterable iter X.env x = pure x)
    (h : tLc wi g tt te (own.map (·.2)) σ H Q)
    (hRR : ∀ D C s' m H', Inv X pins σ H' s' → Q (.ref D) H' → s'.heap.Ns C m → FpOk X pins H' C → compPost (model X.prog X.w) X.A X.xe use Qf (.ref D) C (.ok .next) s') :
    wpAny (model X.prog X.w) X.A (comprehension (.ListComp elt [⟨tg, iter, ifs, 0⟩] scope pos) scope X.env pos' (newList []) false (eval iter X.env) use) Qf X.xe s := by
  have hfree : ∀ y ∈ scope.names, y.2 = .free → ∃ c, X.env.cells.lookup y.1 = some c := fun y hy e => by
    rcases ok.free y hy e with k | k
    · exact I.ok.has _ (.inl k)
    · exact I.ok.has _ (.inr k)
  refine wpAny_comprehension_free (use := use) rfl hs (closure_ok hfree) ok.kind (fun y hy e => by rw [ok.uniq y hy, e])
    (thn (hi pins s σ H _ I h) fun xv s1 hx => thn hx fun itv s2 h2 => ?_)
  obtain ⟨it, fp, tn, J, H2, e, I2, T, st2, f2, q⟩ := h2
  subst e
  refine wpAny_newObj_type (newEnv_comp ?_) (by show 0 ≤ sizeLine; decide)
  generalize hD : s2.heap.objs.size = D
  have hDn : H2 D = none := I2.hok.fresh (Nat.le_of_eq hD)
  obtain ⟨W, ⟨m0, w0⟩, turn⟩ := q D hDn
  -- the new list
  generalize hs3 : ({ s2 with heap := s2.heap.push { cls := .type "list", data := .seq ([] : List Value).toArray } } : Shared) = s3
  have I3 : Inv X pins σ (upd H2 D (.lst [])) s3 := by
    rw [← hs3]
    refine I2.laid (t' := s2.toks) (fun b o e => Heap.get?_push_of_some _ e) (Nat.le_of_eq hD) ⟨Nat.zero_le _, [], 0, .nil, ?_⟩
    rw [← hD]
    exact Heap.get?_push_size _ rfl
  have h3 : s3.heap = s2.heap.push { cls := .type "list", data := .seq ([] : List Value).toArray } := by rw [← hs3]
  have sz : ∀ b ∈ fp, b < s2.heap.objs.size := fun b hb => by
    obtain ⟨o, e, _⟩ := T.obj _ _ st2 b hb
    exact Heap.lt_size e
  have f3 : ∀ b ∈ fp, FpOk X pins (upd H2 D (.lst [])) b ∧ b < s3.heap.objs.size := fun b hb => by
    have hlt := sz b hb
    refine ⟨⟨?_, (f2 b hb).2⟩, by rw [h3, Heap.size_push]; exact Nat.lt_succ_of_lt hlt⟩
    rw [upd_ne (by rw [← hD]; exact Nat.ne_of_lt hlt)]
    exact (f2 b hb).1
  have st3 : tn 0 s3.heap := T.keep _ _ _ st2 fun b _ o e => by rw [h3]; exact Heap.get?_push_of_some _ e
  have I4 := block_start I3 ok hN f3
  have pg := hg s3 (upd H2 D (.lst [])) s3.heap.objs.size (cellsFrom (s3.heap.objs.size + 1) scope.names (cloFrom X.env.cells scope.names [])) fp
  have pt := ht s3 (upd H2 D (.lst [])) s3.heap.objs.size (cellsFrom (s3.heap.objs.size + 1) scope.names (cloFrom X.env.cells scope.names [])) fp
  have pe := he s3 (upd H2 D (.lst [])) s3.heap.objs.size (cellsFrom (s3.heap.objs.size + 1) scope.names (cloFrom X.env.cells scope.names [])) fp
  show codeAny _ _ (.compStart (.ListComp elt [⟨tg, iter, ifs, 0⟩] scope pos) 0 (.ref it) (.ref D) (compEnvC scope (cellsFrom (s3.heap.objs.size + 1) scope.names (cloFrom X.env.cells scope.names [])) s3.heap.objs.size X.env)) (compPost (model X.prog X.w) X.A X.xe use Qf (.ref D) s3.heap.objs.size) { s3 with heap := pushCells (s3.heap.push { cls := .type "dict", data := .dict #[] }) scope.names }
  have nfp : ∀ b ∈ fp, (upd H2 D (.lst [])) b = none := fun b hb => (f3 b hb).1.1
  generalize hce : compEnvC scope (cellsFrom (s3.heap.objs.size + 1) scope.names (cloFrom X.env.cells scope.names [])) s3.heap.objs.size X.env = ce at I4 pg pt pe ⊢
  have cL : ce.locals = s3.heap.objs.size := by subst hce; rfl
  generalize hH3 : upd H2 D (.lst []) = H3 at I3 I4 pg pt pe w0 nfp f3
  generalize hs4 : ({ s3 with heap := pushCells (s3.heap.push { cls := .type "dict", data := .dict #[] }) scope.names } : Shared) = s4 at I4 ⊢
  have st4 : tn 0 s4.heap := T.keep _ _ _ st3 fun b _ o e => by rw [← hs4]; exact pushCells_keeps _ _ _ _ (Heap.get?_push_of_some _ e)
  have stat : ∀ {σ' : St} {H' : Hp} {s' : Shared}, Inv (X.blk s3 H3 scope ce fp) [] σ' H' s' → (∀ b ∈ fp, H' b = none) → ∀ b ∈ fp, FpOk (X.blk s3 H3 scope ce fp) [] H' b := fun {σ' H' s'} I' hn b hb =>
    ⟨hn b hb, (I'.ok.exf b hb).1, I'.ok.exfs b hb, .inl hb, fun x c e => (I'.ok.exf b hb).2 x c e, fun p hp => absurd (show p ∈ ([] : List (Addr × Obj)) ++ [] from hp) (by simp)⟩
  have loop : codeAny (model X.prog X.w) X.A (.compLoop (.ListComp elt [⟨tg, iter, ifs, 0⟩] scope pos) 0 (.ref it) (.ref D) ce) (compPost (model X.prog X.w) X.A X.xe use Qf (.ref D) s3.heap.objs.size) s4 := by
    refine compLoop_any (fun n s' => ∃ i H', Inv (X.blk s3 H3 scope ce fp) [] (wipe σ (own.map (·.2))) H' s' ∧ tn i s'.heap ∧ (∀ b ∈ fp, H' b = none) ∧ W i n H') ?_ m0 ⟨0, H3, I4, st4, nfp, w0⟩
    rintro n s5 ⟨i, H5, I5, st5, n5, w5⟩
    rcases turn i n H5 w5 with ⟨stop, qq⟩ | ⟨go, Nx, hNx, step⟩
    · have td := T.done (X.blk s3 H3 scope ce fp) rfl rfl rfl hc i [] s5 _ H5 (fun _ _ => False) I5 (stat I5 n5) st5 stop
      refine thnF td fun r s6 ⟨hr, I6⟩ => ?_
      subst hr
      -- back in the def's context
      have I7 : Inv X pins σ H5 s6 := I3.call' (ch := fp) I6.os I6.base I6.hok I6.bare fun b hb => ⟨(f3 b hb).1.2.2.2.1, (f3 b hb).1.2.1, (f3 b hb).1.2.2.2.2.1, (f3 b hb).1.2.2.2.2.2⟩
      have nC : H5 s3.heap.objs.size = none := by
        have z : H5 ce.locals = none := I6.free
        rw [cL] at z
        exact z
      obtain ⟨m, hn, _⟩ := I6.loc
      have hn : s6.heap.Ns ce.locals m := hn
      rw [cL] at hn
      exact hRR D s3.heap.objs.size s6 m H5 I7 qq hn (I3.fpOk (Nat.le_refl _) nC)
    · have ti := T.item (X.blk s3 H3 scope ce fp) rfl rfl rfl hc i [] s5 _ H5 (fun _ _ => False) I5 (stat I5 n5) st5 go
      refine thnF ti fun r s6 ⟨u, hr, h6⟩ => ?_
      subst hr
      refine thnF h6 fun _ s7 ⟨x, H7, I7, r7, y7, st7, n7⟩ => ?_
      have I7' := I7.pinned (stat I7 n7) (T.obj _ _ st7)
      refine thnF (pg _ s7 _ H7 x u _ I7' r7 (step x H7 y7)) fun _ s8 ⟨σ8, H8, I8, hw8, q8⟩ => ?_
      refine thnF (pt _ s8 σ8 H8 _ I8 q8) fun b s9 ⟨H9, I9, q9⟩ => ?_
      -- the turn's end
      have fin : ∀ {s' : Shared} {H' : Hp}, Inv (X.blk s3 H3 scope ce fp) ([] ++ pinsAt fp s7.heap) σ8 H' s' → Nx H' → ∃ m, m < n ∧ ∃ i H', Inv (X.blk s3 H3 scope ce fp) [] (wipe σ (own.map (·.2))) H' s' ∧ tn i s'.heap ∧ (∀ b ∈ fp, H' b = none) ∧ W i m H' := fun {s' H'} I' nx => by
        obtain ⟨m', hm, w'⟩ := hNx H' nx
        have pin' : ∀ b ∈ fp, ∀ o, s7.heap.get? b = some o → s'.heap.get? b = some o ∧ H' b = none := fun b hb o e =>
          let z := I'.pin (b, o) (List.mem_append_right _ (List.mem_append_right _ (mem_pinsAt hb e)))
          ⟨z.1, z.2.1⟩
        have hl : (wipe σ (own.map (·.2))).length = σ8.length := by rw [← hw8, wipe_length]
        refine ⟨m', hm, i + 1, H', (I'.unpinned (pins := [])).weak hl (fun j v e => ?_), T.keep _ _ _ st7 fun b hb o e => (pin' b hb o e).1, fun b hb => ?_, w'⟩
        · rw [← hw8] at e
          exact (wipe_some e).1
        · obtain ⟨o, e, _⟩ := T.obj _ _ st7 b hb
          exact (pin' b hb o e).2
      cases b with
      | false =>
        simp only [Bool.false_eq_true, if_false] at q9 ⊢
        exact fin I9 q9
      | true =>
        simp only [if_true] at q9 ⊢
        refine thnF (pe _ s9 σ8 H9 _ I9 q9) fun z s10 ⟨yv, H10, I10, r10, acc, hD10, hz10, nx⟩ => ?_
        exact app_ok (X := X.blk s3 H3 scope ce fp) I10 hD10 hz10 r10 fun s11 I11 => fin I11 nx
  exact codeAny_compStart_list loop (T.self X.A 0 _ _ _ st4 loop)
/-- as a value -/
theorem pe_lc {elt tg iter : Expr} {ifs : List Expr} {scope : Scope} {own : List (Str × Nat)} {pos : Pos} {wi : TI} {g : TG} {tt : TT} {te : TE} (hc : X.calm = true) (hN : X.N.Nodup) (hi : PI X tg iter wi) (ok : BlkOk X.N X.env.scope scope own)
    (hg : ∀ (s : Shared) (H : Hp) (C : Addr) (cl : List (Str × Addr)) (fp : List Addr), PG (X.blk s H scope (compEnvC scope cl C X.env) fp) tg g) (ht : ∀ (s : Shared) (H : Hp) (C : Addr) (cl : List (Str × Addr)) (fp : List Addr), PTs (X.blk s H scope (compEnvC scope cl C X.env) fp) ifs tt)
    (he : ∀ (s : Shared) (H : Hp) (C : Addr) (cl : List (Str × Addr)) (fp : List Addr), PE (X.blk s H scope (compEnvC scope cl C X.env) fp) elt te) (hs : ∀ x, foldedSetIterable iter X.env x = pure x := by intro _; rfl) :
    PE X (.ListComp elt [⟨tg, iter, ifs, 0⟩] scope pos) (tLc wi g tt te (own.map (·.2))) := by
  intro pins s σ H Q I h
  rw [eval_ListComp]
  refine lc_core hc hN I hi ok hg ht he hs h fun D C s' m H' I' q hn f => ⟨m, hn, fun h'' sb => ?_⟩
  obtain ⟨f0, f1, f2, f3, f4, f5⟩ := f
  exact ⟨.ref D, H', I'.turned (t' := s'.toks) (fun b o hb e => (sb.2 b hb).trans e) f0 f1 f3 f4 f5, rfl, q⟩
end

/-! ### the forms one uses -/
/-- over a range: Pv by the turn and the heap (the new list at D within) -/
theorem lc_range {lo : Int} {n : Nat} {g : TG} {tt : TT} {te : TE} {vs : List Nat} {σ : St} {H1 : Hp} {D : Addr} {Qd : Hp → Prop} (Pv : Nat → Hp → Prop) (h0 : Pv 0 (upd H1 D (.lst [])))
    (hs : ∀ i H, i < n → Pv i H → g (.int (lo + i)) (wipe σ vs) H fun σ2 H2 => wipe σ2 vs = wipe σ vs ∧ tt σ2 H2 fun b H3 =>
      if b = true then te σ2 H3 fun y H4 => ∃ acc, H4 D = some (.lst acc) ∧ acc.length < sizeLine ∧ Pv (i + 1) (upd H4 D (.lst (acc ++ [y]))) else Pv (i + 1) H3) (hd : ∀ H, Pv n H → Qd H) :
    ∃ W : Nat → Nat → Hp → Prop, (∃ m, W 0 m (upd H1 D (.lst []))) ∧ ∀ i m H, W i m H →
      ((Itr lo n).stop i H ∧ Qd H) ∨ ((Itr lo n).go i H ∧ ∃ Nx : Hp → Prop, (∀ H', Nx H' → ∃ m', m' < m ∧ W (i + 1) m' H') ∧ ∀ x H', (Itr lo n).yld i H x H' → g x (wipe σ vs) H' fun σ2 H2 => wipe σ2 vs = wipe σ vs ∧ tt σ2 H2 fun b H3 =>
        if b = true then te σ2 H3 fun y H4 => ∃ acc, H4 D = some (.lst acc) ∧ acc.length < sizeLine ∧ Nx (upd H4 D (.lst (acc ++ [y]))) else Nx H3) := by
  refine ⟨fun i m H => m = n - i ∧ i ≤ n ∧ Pv i H, ⟨n, by simp, Nat.zero_le _, h0⟩, ?_⟩
  rintro i m H ⟨rfl, hi, p⟩
  by_cases hlt : i < n
  · refine .inr ⟨hlt, Pv (i + 1), fun H' p' => ⟨n - (i + 1), by omega, rfl, hlt, p'⟩, fun x H' y => ?_⟩
    obtain ⟨e, y⟩ := y
    subst e y
    exact hs i _ hlt p
  · have e : i = n := by omega
    subst e
    exact .inl ⟨Nat.le_refl _, hd H p⟩
/-- over a list that the block leaves as it is -/
theorem lc_list {K : PySem.W.Frag} {a : Addr} {xs : List V} {g : TG} {tt : TT} {te : TE} {vs : List Nat} {σ : St} {H1 : Hp} {D : Addr} {Qd : Hp → Prop} (Pv : Nat → Hp → Prop) (h0 : Pv 0 (upd H1 D (.lst []))) (hl : ∀ i H, i ≤ xs.length → Pv i H → SqL K H a xs)
    (hs : ∀ i x H, xs[i]? = some x → Pv i H → g x (wipe σ vs) H fun σ2 H2 => wipe σ2 vs = wipe σ vs ∧ tt σ2 H2 fun b H3 =>
      if b = true then te σ2 H3 fun y H4 => ∃ acc, H4 D = some (.lst acc) ∧ acc.length < sizeLine ∧ Pv (i + 1) (upd H4 D (.lst (acc ++ [y]))) else Pv (i + 1) H3) (hd : ∀ H, Pv xs.length H → Qd H) :
    ∃ W : Nat → Nat → Hp → Prop, (∃ m, W 0 m (upd H1 D (.lst []))) ∧ ∀ i m H, W i m H →
      ((Itl K a).stop i H ∧ Qd H) ∨ ((Itl K a).go i H ∧ ∃ Nx : Hp → Prop, (∀ H', Nx H' → ∃ m', m' < m ∧ W (i + 1) m' H') ∧ ∀ x H', (Itl K a).yld i H x H' → g x (wipe σ vs) H' fun σ2 H2 => wipe σ2 vs = wipe σ vs ∧ tt σ2 H2 fun b H3 =>
        if b = true then te σ2 H3 fun y H4 => ∃ acc, H4 D = some (.lst acc) ∧ acc.length < sizeLine ∧ Nx (upd H4 D (.lst (acc ++ [y]))) else Nx H3) := by
  refine ⟨fun i m H => m = xs.length - i ∧ i ≤ xs.length ∧ Pv i H, ⟨xs.length, by simp, Nat.zero_le _, h0⟩, ?_⟩
  rintro i m H ⟨rfl, hi, p⟩
  have q := hl i H hi p
  by_cases hlt : i < xs.length
  · refine .inr ⟨⟨xs, xs[i], q, by simp [hlt]⟩, Pv (i + 1), fun H' p' => ⟨xs.length - (i + 1), by omega, rfl, hlt, p'⟩, fun x H' y => ?_⟩
    obtain ⟨e, y⟩ := y
    subst e
    exact hs i x _ (y xs q) p
  · have e : i = xs.length := by omega
    subst e
    exact .inl ⟨⟨xs, q, Nat.le_refl _⟩, hd H p⟩
def blkC (N : List Str) (sc scope : Scope) (own : List (Str × Nat)) : Bool :=
  (match scope.kind with | .function => true | _ => false) && (scope.names.all fun y => decide (scope.names.lookup y.1 = some y.2)) && (own.all fun p => decide (N[p.2]? = some p.1)) &&
    (scope.names.all fun y => match y.2 with
      | .free => (match sc.names.lookup y.1 with | some .cell => true | some .free => true | _ => false)
      | .local => decide (y.1 ∈ own.map (·.1)) || decide (y.1 ∉ N)
      | .cell => decide (y.1 ∈ own.map (·.1)) || decide (y.1 ∉ N)
      | _ => true)
theorem blkOk_by {N : List Str} {sc scope : Scope} {own : List (Str × Nat)} (h : blkC N sc scope own = true) : BlkOk N sc scope own := by
  unfold blkC at h
  simp only [Bool.and_eq_true, List.all_eq_true, decide_eq_true_eq] at h
  obtain ⟨⟨⟨h1, h2⟩, h3⟩, h4⟩ := h
  refine ⟨?_, h2, h3, fun y hy e => ?_, fun y hy e => ?_⟩
  · split at h1
    · assumption
    · cases h1
  · have q := h4 y hy
    simp only [e] at q
    split at q <;> first | exact .inl (by assumption) | exact .inr (by assumption) | cases q
  · have q := h4 y hy
    rcases e with e | e <;> (simp only [e, Bool.or_eq_true, decide_eq_true_eq] at q; exact q)
end L2

namespace L2
open PySem PySem.Spec PyProof.Rows


section
variable {prog : Program} {w : World} {A : Around} {R : Result → Shared → Prop} {s : Shared} {elt t0 i0 t1 i1 : Expr} {ifs0 ifs1 : List Expr} {scope : Scope} {pos : Pos} {it acc : Value} {env : Env}
end

section
variable {X : Cx}
/-- [elt for tg in iter if .. for tg1 in iter1 if ..]: behind the first clause's store and tests the second source's own loop, from which Nx is reached. vs: the block's names; vs1: those of the second target -/
def tLc2 (wi : TI) (g : TG) (tt : TT) (wi1 : TI) (g1 : TG) (tt1 : TT) (te : TE) (vs vs1 : List Nat) : TE := fun σ H Q => wi σ H fun J H1 => ∀ D, H1 D = none → ∃ W : Nat → Nat → Hp → Prop, (∃ m, W 0 m (upd H1 D (.lst []))) ∧ ∀ i m H, W i m H →
  (J.stop i H ∧ Q (.ref D) H) ∨ (J.go i H ∧ ∃ Nx : Hp → Prop, (∀ H', Nx H' → ∃ m', m' < m ∧ W (i + 1) m' H') ∧ ∀ x H', J.yld i H x H' → g x (wipe σ vs) H' fun σ2 H2 => wipe σ2 vs = wipe σ vs ∧ tt σ2 H2 fun b H3 =>
    if b = true then wi1 σ2 H3 fun J1 H4 => ∃ W1 : Nat → Nat → Hp → Prop, (∃ m, W1 0 m H4) ∧ ∀ j k H, W1 j k H →
      (J1.stop j H ∧ Nx H) ∨ (J1.go j H ∧ ∃ Nx1 : Hp → Prop, (∀ H', Nx1 H' → ∃ k', k' < k ∧ W1 (j + 1) k' H') ∧ ∀ x H', J1.yld j H x H' → g1 x (wipe σ2 vs1) H' fun σ3 H5 => wipe σ3 vs1 = wipe σ2 vs1 ∧ tt1 σ3 H5 fun b H6 =>
        if b = true then te σ3 H6 fun y H7 => ∃ acc, H7 D = some (.lst acc) ∧ acc.length < sizeLine ∧ Nx1 (upd H7 D (.lst (acc ++ [y]))) else Nx1 H6)
    else Nx H3)
end
end L2

namespace L2
open PySem PySem.Spec PyProof.Rows

/-! ### lists of pairs as tables -/
section
variable {κ : Type} [DecidableEq κ]
def valV (kvs : List (κ × V)) (k : κ) : Option V := (kvs.find? fun kv => decide (kv.1 = k)).map (·.2)
/-- in its place, or at the end -/
def putK (kvs : List (κ × V)) (k : κ) (v : V) : List (κ × V) :=
  if (kvs.any fun kv => decide (kv.1 = k)) = true then kvs.map (fun kv => if kv.1 = k then (kv.1, v) else kv) else kvs ++ [(k, v)]
def dropK (kvs : List (κ × V)) (k : κ) : List (κ × V) := kvs.filter fun kv => decide (kv.1 ≠ k)

theorem valV_pos {p : κ × V} {r : List (κ × V)} {k : κ} (e : p.1 = k) : valV (p :: r) k = some p.2 := by simp [valV, List.find?_cons, e]
theorem valV_neg {p : κ × V} {r : List (κ × V)} {k : κ} (e : ¬ p.1 = k) : valV (p :: r) k = valV r k := by simp [valV, List.find?_cons, e]
theorem valV_any (k : κ) : ∀ kvs : List (κ × V), (kvs.any fun kv => decide (kv.1 = k)) = (valV kvs k).isSome
  | [] => rfl
  | p :: r => by
    rw [List.any_cons]
    by_cases e : p.1 = k
    · simp only [valV_pos e, decide_eq_true e, Bool.true_or, Option.isSome_some]
    · rw [valV_neg e, decide_eq_false e, Bool.false_or]; exact valV_any k r

theorem RelO.isSome_eq {o : Option V} {u : Option Value} (r : RelO o u) : o.isSome = u.isSome := by
  cases o with
  | none => cases u with
    | none => rfl
    | some _ => exact (show False from r).elim
  | some _ => cases u with
    | none => exact (show False from r).elim
    | some _ => rfl
theorem RelO.getD {o : Option V} {u : Option Value} {d : V} {d' : Value} (r : RelO o u) (rd : RelV d d') : RelV (o.getD d) (u.getD d') := by
  cases o with
  | none => cases u with
    | none => exact rd
    | some _ => exact (show False from r).elim
  | some _ => cases u with
    | none => exact (show False from r).elim
    | some _ => exact r

/-- raw tables of the same keys -/
theorem KV.val {kvs : List (κ × V)} {vs : List (κ × Value)} (r : KV kvs vs) (k : κ) : RelO (valV kvs k) (valueAt vs k) := by
  unfold KV at r
  induction r with
  | nil => exact True.intro
  | @cons p q ps qs h t ih =>
    obtain ⟨h1, h2⟩ := h
    by_cases e : p.1 = k
    · have e' : q.1 = k := h1.symm.trans e
      have b : valueAt (q :: qs) k = some q.2 := by simp [valueAt, List.find?_cons, e']
      rw [valV_pos e, b]; exact h2
    · have e' : ¬ q.1 = k := fun z => e (h1.trans z)
      have b : valueAt (q :: qs) k = valueAt qs k := by simp [valueAt, List.find?_cons, e']
      rw [valV_neg e, b]; exact ih
theorem KV.any {kvs : List (κ × V)} {vs : List (κ × Value)} (r : KV kvs vs) (k : κ) : (kvs.any fun kv => decide (kv.1 = k)) = vs.any fun kv => decide (kv.1 = k) := by
  unfold KV at r
  induction r with
  | nil => rfl
  | cons h t ih => rw [List.any_cons, List.any_cons, ih, h.1]
theorem KV.repl {kvs : List (κ × V)} {vs : List (κ × Value)} (r : KV kvs vs) (k : κ) {y : V} {u : Value} (ry : RelV y u) :
    KV (kvs.map fun kv => if kv.1 = k then (kv.1, y) else kv) (vs.map fun kv => if kv.1 = k then (kv.1, u) else kv) := by
  unfold KV at r ⊢
  induction r with
  | nil => exact .nil
  | @cons p q ps qs h t ih =>
    rw [List.map_cons, List.map_cons]
    refine .cons ?_ ih
    obtain ⟨h1, h2⟩ := h
    by_cases e : p.1 = k
    · rw [if_pos e, if_pos (h1.symm.trans e)]; exact ⟨h1, ry⟩
    · rw [if_neg e, if_neg (fun z => e (h1.trans z))]; exact ⟨h1, h2⟩
theorem KV.put {kvs : List (κ × V)} {vs : List (κ × Value)} (r : KV kvs vs) (k : κ) {y : V} {u : Value} (ry : RelV y u) : KV (putK kvs k y) (stored vs k u) := by
  unfold putK stored
  rw [r.any k]
  by_cases e : (vs.any fun kv => decide (kv.1 = k)) = true
  · rw [if_pos e, if_pos e]; exact r.repl k ry
  · rw [if_neg e, if_neg e]; exact Paired.snoc r ⟨rfl, ry⟩
theorem KV.drop {kvs : List (κ × V)} {vs : List (κ × Value)} (r : KV kvs vs) (k : κ) : KV (dropK kvs k) (without vs k) := by
  unfold KV at r ⊢
  unfold dropK without
  induction r with
  | nil => exact .nil
  | @cons p q ps qs h t ih =>
    obtain ⟨h1, h2⟩ := h
    rw [List.filter_cons, List.filter_cons]
    by_cases e : p.1 = k
    · have a : ¬ decide (p.1 ≠ k) = true := by simp [e]
      have b : ¬ decide (q.1 ≠ k) = true := by simp [h1.symm.trans e]
      rw [if_neg a, if_neg b]; exact ih
    · have e' : ¬ q.1 = k := fun z => e (h1.trans z)
      have a : decide (p.1 ≠ k) = true := by simp [e]
      have b : decide (q.1 ≠ k) = true := by simp [e']
      rw [if_pos a, if_pos b]; exact .cons ⟨h1, h2⟩ ih
theorem KV.keys {kvs : List (κ × V)} {vs : List (κ × Value)} (r : KV kvs vs) : kvs.map (·.1) = vs.map (·.1) := by
  unfold KV at r
  induction r with
  | nil => rfl
  | cons h t ih => rw [List.map_cons, List.map_cons, ih, h.1]
theorem KV.length {kvs : List (κ × V)} {vs : List (κ × Value)} (r : KV kvs vs) : kvs.length = vs.length := Paired.length r
end


/-! ### a tracked dict, its keys ints and texts or tuples of these -/

/-- raw entries of a dict with tuple keys -/
abbrev KT (H : Hp) : List (List Key × V) → List (List Key × Addr × Value) → Prop := Paired fun p q => p.1 = q.1 ∧ H q.2.1 = some (.tup (p.1.map kV)) ∧ RelV p.2 q.2.2
theorem KT.val {H : Hp} {kvs : List (List Key × V)} {xs : List (List Key × Addr × Value)} (r : KT H kvs xs) (k : List Key) : RelO (valV kvs k) ((atKey xs k).map (·.2)) := by
  induction r with
  | nil => exact True.intro
  | @cons p q ps qs h t ih =>
    obtain ⟨h1, _, h2⟩ := h
    by_cases e : p.1 = k
    · have e' : q.1 = k := h1.symm.trans e
      have b : atKey (q :: qs) k = some q.2 := by simp [atKey, List.find?_cons, e']
      rw [valV_pos e, b]; exact h2
    · have e' : ¬ q.1 = k := fun z => e (h1.trans z)
      have b : atKey (q :: qs) k = atKey qs k := by simp [atKey, List.find?_cons, e']
      rw [valV_neg e, b]; exact ih
theorem KT.repl {H : Hp} {kvs : List (List Key × V)} {xs : List (List Key × Addr × Value)} (r : KT H kvs xs) (k : List Key) {y : V} {u : Value} (ry : RelV y u) :
    KT H (kvs.map fun kv => if kv.1 = k then (kv.1, y) else kv) (xs.map (putAt k u)) := by
  induction r with
  | nil => exact .nil
  | @cons p q ps qs h t ih =>
    rw [List.map_cons, List.map_cons]
    refine .cons ?_ ih
    obtain ⟨h1, h2, h3⟩ := h
    unfold putAt
    by_cases e : p.1 = k
    · rw [if_pos e, if_pos (h1.symm.trans e)]; exact ⟨h1, h2, ry⟩
    · rw [if_neg e, if_neg (fun z => e (h1.trans z))]; exact ⟨h1, h2, h3⟩
theorem KT.put {H : Hp} {kvs : List (List Key × V)} {xs : List (List Key × Addr × Value)} (r : KT H kvs xs) (k : List Key) {b : Addr} {y : V} {u : Value} (hb : H b = some (.tup (k.map kV))) (ry : RelV y u) :
    KT H (putK kvs k y) (storedH xs k b u) := by
  have e : (kvs.any fun kv => decide (kv.1 = k)) = (atKey xs k).isSome := by
    rw [valV_any, (r.val k).isSome_eq, Option.isSome_map]
  unfold putK storedH
  rw [e]
  by_cases q : (atKey xs k).isSome = true
  · rw [if_pos q, if_pos q]; exact r.repl k ry
  · rw [if_neg q, if_neg q]; exact Paired.snoc r ⟨rfl, hb, ry⟩
theorem KT.keeps {H H' : Hp} {kvs : List (List Key × V)} {xs : List (List Key × Addr × Value)} (r : KT H kvs xs) (ht : ∀ b ys, H b = some (.tup ys) → H' b = some (.tup ys)) : KT H' kvs xs :=
  Paired.mapP r fun _ _ z => ⟨z.1, ht _ _ z.2.1, z.2.2⟩

section
variable {P : Program} {w : World} {H : Hp} {h : Heap} {a : Addr}
end

/-- what the dict at a holds at the key y -/
def DGet (H : Hp) (a : Addr) (y : V) (r : Option V) : Prop :=
  (∃ kvs k, Rd H a (.dK kvs) ∧ y = kV k ∧ r = valV kvs k) ∨ ∃ kvs k b, Rd H a (.dT kvs) ∧ y = .ref b ∧ H b = some (.tup (k.map kV)) ∧ r = valV kvs k
/-- the heap behind a[y] = v -/
def DPut (H : Hp) (a : Addr) (y v : V) (H' : Hp) : Prop :=
  (∃ kvs k, H a = some (.dK kvs) ∧ y = kV k ∧ kvs.length < sizeLine ∧ H' = upd H a (.dK (putK kvs k v))) ∨
  ∃ kvs k b, H a = some (.dT kvs) ∧ y = .ref b ∧ H b = some (.tup (k.map kV)) ∧ kvs.length < sizeLine ∧ H' = upd H a (.dT (putK kvs k v))
theorem DGet.k {H : Hp} {a : Addr} {kvs : List (Key × V)} {k : Key} (e : H a = some (.dK kvs)) : DGet H a (kV k) (valV kvs k) := .inl ⟨kvs, k, .inl e, rfl, rfl⟩
theorem DGet.t {H : Hp} {a b : Addr} {kvs : List (List Key × V)} {k : List Key} (e : H a = some (.dT kvs)) (eb : H b = some (.tup (k.map kV))) : DGet H a (.ref b) (valV kvs k) := .inr ⟨kvs, k, b, .inl e, rfl, eb, rfl⟩
theorem DPut.k {H : Hp} {a : Addr} {kvs : List (Key × V)} {k : Key} {v : V} (e : H a = some (.dK kvs)) (hl : kvs.length < sizeLine) : DPut H a (kV k) v (upd H a (.dK (putK kvs k v))) := .inl ⟨kvs, k, e, rfl, hl, rfl⟩
theorem DPut.t {H : Hp} {a b : Addr} {kvs : List (List Key × V)} {k : List Key} {v : V} (e : H a = some (.dT kvs)) (eb : H b = some (.tup (k.map kV))) (hl : kvs.length < sizeLine) :
    DPut H a (.ref b) v (upd H a (.dT (putK kvs k v))) := .inr ⟨kvs, k, b, e, rfl, eb, hl, rfl⟩


section
variable {X : Cx} {pins : List (Addr × Obj)} {σ : St} {H : Hp} {s : Shared} {a : Addr} {y v : V} {u r : Value} {o : Option V} {A : Around} {E : Value → Shared → Prop}


end

section
variable {X : Cx} {pins : List (Addr × Obj)} {σ : St} {H : Hp} {s : Shared} {a : Addr} {kvs : List (Key × V)} {k : Key} {u : Value} {A : Around} {E : Value → Shared → Prop}
end


/-! ### readings and rules -/
/-- the element of a subscription, not a slice -/
def NoSl (i : Expr) : Prop := ∀ ov iv, subscripted i false ov iv = operate [ov, iv] (getItem ov iv)


/-- d[y] -/
def tDGet (td ty : TE) : TE := fun σ H Q => td σ H fun x H1 => ty σ H1 fun y H2 => ∃ a v, x = .ref a ∧ DGet H2 a y (some v) ∧ Q v H2
/-- y in d, y not in d -/
def tDIn (ty td : TE) : TE := fun σ H Q => ty σ H fun y H1 => td σ H1 fun x H2 => ∃ a o, x = .ref a ∧ DGet H2 a y o ∧ Q (.bl o.isSome) H2
def tDNotIn (ty td : TE) : TE := fun σ H Q => ty σ H fun y H1 => td σ H1 fun x H2 => ∃ a o, x = .ref a ∧ DGet H2 a y o ∧ Q (.bl (!o.isSome)) H2
/-- d[y] = v -/
def sDPut (td ty tv : TE) : TS := fun D σ H => tv σ H fun v H1 => td σ H1 fun x H2 => ty σ H2 fun y H3 => ∃ a H4, x = .ref a ∧ DPut H3 a y v H4 ∧ D.nx σ H4
/-- d[y] op= v -/
def sDAug (td ty tv : TE) (rd : V → V → Hp → VK → Prop) : TS := fun D σ H => td σ H fun x H1 => ty σ H1 fun y H2 => ∃ a v, x = .ref a ∧ DGet H2 a y (some v) ∧
  tv σ H2 fun y2 H3 => rd v y2 H3 fun z H4 => ∃ H5, DPut H4 a y z H5 ∧ D.nx σ H5
/-- del d[y] -/
def sDDel (td ty : TE) : TS := fun D σ H => td σ H fun x H1 => ty σ H1 fun y H2 => ∃ a kvs k, x = .ref a ∧ H2 a = some (.dK kvs) ∧ y = kV k ∧ (valV kvs k).isSome = true ∧ D.nx σ (upd H2 a (.dK (dropK kvs k)))

section
variable {X : Cx} {o i e value : Expr} {pos pos' tpos : Pos} {td ty tv : TE}
end


/-! ### displays -/
/-- {}, to be a dict of the kind that is wanted -/
def tDNewK : TE := fun _ H Q => ∀ p, H p = none → Q (.ref p) (upd H p (.dK []))
def tDNewT : TE := fun _ H Q => ∀ p, H p = none → Q (.ref p) (upd H p (.dT []))
section
variable {X : Cx} {pos : Pos}
end

/-- the pairs of a display, from the left -/
def tPairs : List (TE × TE) → St → Hp → (List (V × V) → Hp → Prop) → Prop
  | [], _, H, Q => Q [] H
  | (tk, tv) :: r, σ, H, Q => tk σ H fun x H1 => tv σ H1 fun y H2 => tPairs r σ H2 fun ps H3 => Q ((x, y) :: ps) H3
abbrev VV : List (V × V) → List (Value × Value) → Prop := Paired fun p q => RelV p.1 q.1 ∧ RelV p.2 q.2
def PPs (X : Cx) (pos : Pos) (keys : List (Option Expr)) (values : List Expr) (trs : List (TE × TE)) : Prop :=
  ∀ (pins : List (Addr × Obj)) (s : Shared) (σ : St) (H : Hp) (Q : List (V × V) → Hp → Prop), Inv X pins σ H s → tPairs trs σ H Q →
    wpAny (model X.prog X.w) X.A (evalPairs (pairTrees keys values X.env pos)) (fun vs s' => ∃ ps H', Inv X pins σ H' s' ∧ VV ps vs ∧ Q ps H') X.xe s

def mergeK (kvs more : List (Key × V)) : List (Key × V) := more.foldl (fun acc kv => putK acc kv.1 kv.2) kvs
/-- {k: v, ..} with keys ints and texts; the new dict stands empty while the pairs are made -/
def tDisp (trs : List (TE × TE)) : TE := fun σ H Q => ∀ p, H p = none → tPairs trs σ (upd H p (.dK [])) fun ps H2 => H2 p = some (.dK []) ∧ ∃ kvs : List (Key × V), ps = kvs.map (fun kv => (kV kv.1, kv.2)) ∧ kvs.length ≤ 15 ∧ Q (.ref p) (upd H2 p (.dK (mergeK [] kvs)))


/-! ### methods -/
/-- a method call o.m(e) of a built-in, with one argument: what must be seen of the text -/
structure M1 (X : Cx) (o : Expr) (m : Str) (apos : Pos) (e : Expr) (cpos : Pos) : Prop where
  base : attributeBase o m X.env (eval o X.env) = eval o X.env
  few : ((backTo cpos (starEach [e] X.env)).all (fun x => !x.1) && (backToKw cpos (keywordEach [] X.env)).all (fun x => x.1.isSome)
    && decide (([e] : List Expr).length + ([] : List Keyword).length + (if ([] : List Keyword).isEmpty then 0 else 1) < 30)) = true
  line : (apos.endLine == cpos.line) = true
  trees : backTo cpos (starEach [e] X.env) = [(false, eval e X.env)]
structure M2 (X : Cx) (o : Expr) (m : Str) (apos : Pos) (e f : Expr) (cpos : Pos) : Prop where
  base : attributeBase o m X.env (eval o X.env) = eval o X.env
  few : ((backTo cpos (starEach [e, f] X.env)).all (fun x => !x.1) && (backToKw cpos (keywordEach [] X.env)).all (fun x => x.1.isSome)
    && decide (([e, f] : List Expr).length + ([] : List Keyword).length + (if ([] : List Keyword).isEmpty then 0 else 1) < 30)) = true
  line : (apos.endLine == cpos.line) = true
  trees : backTo cpos (starEach [e, f] X.env) = [(false, eval e X.env), (false, eval f X.env)]

/-- a is a dict, whatever its keys -/
def IsD (H : Hp) (a : Addr) : Prop := (∃ kvs, Rd H a (.dK kvs)) ∨ ∃ kvs, Rd H a (.dT kvs)

section
variable {X : Cx} {pins : List (Addr × Obj)} {σ : St} {H : Hp} {s : Shared} {a : Addr} {y d : V} {u r : Value} {o : Option V} {A : Around} {E : Value → Shared → Prop}
end

def tDGet1 (td ty : TE) : TE := fun σ H Q => td σ H fun x H1 => ∃ a, x = .ref a ∧ IsD H1 a ∧ ty σ H1 fun y H2 => ∃ o, DGet H2 a y o ∧ Q (o.getD .non) H2
def tDGet2 (td ty tx : TE) : TE := fun σ H Q => td σ H fun x H1 => ∃ a, x = .ref a ∧ IsD H1 a ∧ ty σ H1 fun y H2 => tx σ H2 fun z H3 => ∃ o, DGet H3 a y o ∧ Q (o.getD z) H3
/-- d.pop(k): there; d.pop(k, x): there or not -/
def tDPop1 (td ty : TE) : TE := fun σ H Q => td σ H fun x H1 => ∃ a, x = .ref a ∧ IsD H1 a ∧ ty σ H1 fun y H2 => ∃ kvs k v, H2 a = some (.dK kvs) ∧ y = kV k ∧ valV kvs k = some v ∧ Q v (upd H2 a (.dK (dropK kvs k)))
def tDPop2 (td ty tx : TE) : TE := fun σ H Q => td σ H fun x H1 => ∃ a, x = .ref a ∧ IsD H1 a ∧ ty σ H1 fun y H2 => tx σ H2 fun z H3 => ∃ kvs k, H3 a = some (.dK kvs) ∧ y = kV k ∧
  (∀ v, valV kvs k = some v → Q v (upd H3 a (.dK (dropK kvs k)))) ∧ (valV kvs k = none → Q z H3)
section
variable {X : Cx} {o e f : Expr} {apos cpos : Pos} {td ty tx : TE}
end

/-! ### dict(d): a copy -/
section
variable {X : Cx} {pins : List (Addr × Obj)} {σ : St} {H : Hp} {s : Shared} {a : Addr} {kvs : List (Key × V)} {A : Around} {E : Value → Shared → Prop}
end


section
variable {X : Cx} {pins : List (Addr × Obj)} {σ : St} {H : Hp} {s : Shared} {a : Addr} {y : V} {u : Value} {A : Around} {E : Value → Shared → Prop}
end
end L2

namespace L2
open PySem PySem.Spec PyProof.Rows


section
variable {prog : Program} {w : World} {A : Around} {E : Value → Shared → Prop}


end

section
variable {X : Cx}
end
end L2

namespace L2
open PySem PySem.Spec PyProof.Rows


section
variable {X : Cx} {pins : List (Addr × Obj)} {σ : St} {H : Hp} {s : Shared} {h' : Heap}

/-! ### locking a thing while a statement runs -/
end
/-- the statement runs while the thing at d is locked (read, not written); d and what stands there are the reading's choice -/
def tLock (t : TS) : TS := fun D σ H => ∃ d u, H d = some u ∧ Mut (some u) ∧ ∀ od, t ⟨fun σ' H' => H' d = some (.frz od u) ∧ D.nx σ' (upd H' d u), fun v H' => H' d = some (.frz od u) ∧ D.rt v (upd H' d u), fun σ' H' => H' d = some (.frz od u) ∧ D.bk σ' (upd H' d u), fun σ' H' => H' d = some (.frz od u) ∧ D.ct σ' (upd H' d u)⟩ σ (upd H d (.frz od u))
def tLockE (t : TE) : TE := fun σ H Q => ∃ d u, H d = some u ∧ Mut (some u) ∧ ∀ od, t σ (upd H d (.frz od u)) fun v H' => H' d = some (.frz od u) ∧ Q v (upd H' d u)
section
variable {X : Cx}

/-! ### one iterator just laid -/
theorem pi_one {tg : Expr} {pins : List (Addr × Obj)} {σ : St} {H : Hp} {s : Shared} {R : It → Hp → Prop} {J : It} {tn : Nat → Heap → Prop} {tk : Nat} (I : Inv X pins σ H s) (o : Obj)
    (T : Turn X.prog X.w X.K tg J [s.heap.objs.size] s.heap.objs.size tn) (st : tn 0 (s.heap.push o)) (q : R J H) : PIE X pins σ tg R (.ref s.heap.objs.size) { s with heap := s.heap.push o, toks := tk } := by
  refine ⟨s.heap.objs.size, [s.heap.objs.size], tn, J, H, rfl, I.kept fun b ob e => Heap.get?_push_of_some _ e, T, st, fun b hb => ?_, q⟩
  have e : b = s.heap.objs.size := by simpa using hb
  subst e
  exact I.fpOk (Nat.le_refl _) (I.hok.fresh (Nat.le_refl _))
end

/-! ### range with a step -/
/-- lo, lo + c, .. (n of them) -/
def Itc (lo c : Int) (n : Nat) : It := ⟨fun i _ => i < n, fun i H x H' => H' = H ∧ x = .int (lo + (i : Nat) * c), fun i _ => n ≤ i⟩
theorem turn_rangeC {P : Program} {w : World} {K : PySem.W.Frag} {tg : Expr} (it : Addr) (lo c : Int) (n : Nat) : Turn P w K tg (Itc lo c n) [it] it (fun i h => IsRangeIter h it (lo + (i : Nat) * c) ((n : Int) - (i : Nat)) c) where
  mem := by simp
  obj := fun i h st b hb => by
    have e : b = it := by simpa using hb
    subst e
    exact ⟨_, st, fun v z => nomatch z⟩
  keep := fun i h h' st k => k it (by simp) _ st
  item := by
    intro X hP hw hK hc i pins s σ H E I hf st hg
    subst hP hw hK
    obtain ⟨f0, f1, f2, f3, f4, f5⟩ := hf it (by simp)
    have W := Walks.range (prog := X.prog) (w := X.w) (I.ok.hd hc) it lo c n
    refine W.item i s _ _ hg st fun v h' tk hv st' kk => ?_
    obtain ⟨t, rfl⟩ := hv
    have I1 : Inv X pins σ H { s with heap := h', toks := tk } := I.turned (fun b o hb e => kk b o (by simpa using hb) e) f0 f1 f3 f4 f5
    exact ⟨_, rfl, go_of (s := { s with heap := h', toks := tk }) (n := "range_iterator") st' rfl rfl (by decide) ⟨.int (lo + (i : Nat) * c), H, I1, ⟨t, rfl⟩, ⟨rfl, rfl⟩, st', fun b hb => (hf b hb).1⟩⟩
  done := by
    intro X hP hw hK hc i pins s σ H E I hf st hg
    subst hP hw hK
    obtain ⟨f0, f1, f2, f3, f4, f5⟩ := hf it (by simp)
    exact wpAny_pyNext_range_end (I.ok.hd hc) st (by have : n ≤ i := hg; omega) fun h' eb => ⟨rfl, I.turned (t' := s.toks) (fun b o hb e => eb b o hb e) f0 f1 f3 f4 f5⟩
  self := fun A i s Q E st h => wpAny_pyIter_rangeiter st h
/-- range(i, j, c): small bounds, n items -/
def RgC (i j c : Int) (n : Nat) : Prop := c ≠ 0 ∧ c.natAbs < 1073741824 ∧ Builtin.Range.small i j c = true ∧ Builtin.Range.rangeSize i j c = n
theorem RgC.neg {i j : Int} (ha : -(2 ^ 62) ≤ i) (ha' : i < 2 ^ 62) (hb : -(2 ^ 62) ≤ j) (hb' : j < 2 ^ 62) : RgC i j (-1) (i - j).toNat :=
  ⟨by decide, by decide, PySem.W.small_down ha ha' hb hb', PySem.W.rangeSize_downNat i j⟩
def iRng3 (ta : TA) : TI := fun σ H R => ta σ H fun vs H1 => ∃ (i j c : Int) (n : Nat), vs = [.int i, .int j, .int c] ∧ RgC i j c n ∧ R (Itc i c n) H1
section
variable {X : Cx} {tg : Expr}
theorem pi_range3 {a b c : Expr} {ta : TA} {p pos : Pos} (hg : Gl X "range") (hm : X.mg "range" = none) (ha : PA X [a, b, c] ta)
    (hs : starEach [a, b, c] X.env = (false, eval a X.env) :: starEach [b, c] X.env := by rfl) (hpl : (backTo pos (starEach [b, c] X.env)).any (·.1) = false := by rfl) :
    PI X tg (.Call (.Name "range" p) [a, b, c] [] pos) (iRng3 ta) := by
  intro pins s σ H R I h
  refine Call_ (ld_blt I hg hm boot_range (PyProof.Rows.callWith_type1 (thn (ha pos pins s σ H _ I h) fun us s1 ⟨vs, H1, I1, r1, q1⟩ => ?_) hs hpl))
  obtain ⟨i, j, k, n, e, ⟨c0, c1, c2, c3⟩, q⟩ := q1
  subst e
  cases r1 with
  | cons r rr =>
    cases rr with
    | cons r' rr =>
      cases rr with
      | cons r'' rr =>
        cases rr
        obtain ⟨t, rfl⟩ := r
        obtain ⟨t', rfl⟩ := r'
        obtain ⟨t'', rfl⟩ := r''
        refine call_range_3 c0 ?_ (.inl (PyProof.noPylong_small c1))
        refine wpAny_pyIter_range (IsRange.new ..) c2 ?_
        have I2 : Inv X pins σ H1 { s1 with heap := s1.heap.push { cls := .type "range", data := .fields #[.int i t, .int j t', .int k t''] } } := I1.kept (t' := s1.toks) fun b o e => Heap.get?_push_of_some _ e
        refine pi_one (tk := s1.toks) I2 _ (turn_rangeC _ i k n) ?_ q
        have e1 : i + ((0 : Nat) : Int) * k = i := by simp
        have e2 : (n : Int) - ((0 : Nat) : Int) = Builtin.Range.rangeSize i j k := by rw [c3]; simp
        show IsRangeIter _ _ (i + ((0 : Nat) : Int) * k) ((n : Int) - ((0 : Nat) : Int)) k
        rw [e1, e2]
        exact Heap.get?_push_size _ rfl
end
/-- the turns of a step range, for the for loop -/
theorem for_rangeC {lo c : Int} {n : Nat} {g : TG} {tb : TS} {D : Ends} {σ : St} {H : Hp} (Pv : Nat → St → Hp → Prop) (h0 : Pv 0 σ H)
    (hs : ∀ i σ H, i < n → Pv i σ H → g (.int (lo + (i : Nat) * c)) σ H fun σ2 H2 => tb { D with nx := Pv (i + 1), ct := Pv (i + 1), bk := D.nx } σ2 H2) (hd : ∀ σ H, Pv n σ H → D.nx σ H) :
    ∃ W : Nat → Nat → St → Hp → Prop, (∃ m, W 0 m σ H) ∧ ∀ i m σ H, W i m σ H →
      ((Itc lo c n).stop i H ∧ D.nx σ H) ∨ ((Itc lo c n).go i H ∧ ∃ N : St → Hp → Prop, (∀ σ' H', N σ' H' → ∃ m', m' < m ∧ W (i + 1) m' σ' H') ∧ ∀ x H', (Itc lo c n).yld i H x H' → g x σ H' fun σ2 H2 => tb { D with nx := N, ct := N, bk := D.nx } σ2 H2) := by
  refine ⟨fun i m σ H => m = n - i ∧ i ≤ n ∧ Pv i σ H, ⟨n, by simp, Nat.zero_le _, h0⟩, ?_⟩
  rintro i m σ H ⟨rfl, hi, p⟩
  by_cases hlt : i < n
  · refine .inr ⟨hlt, Pv (i + 1), fun σ' H' p' => ⟨n - (i + 1), by omega, rfl, hlt, p'⟩, fun x H' y => ?_⟩
    obtain ⟨e, y⟩ := y
    subst e y
    exact hs i σ _ hlt p
  · have e : i = n := by omega
    subst e
    exact .inl ⟨Nat.le_refl _, hd σ H p⟩

/-! ### reversed(list) -/
/-- the list at a (n items at the start, which the loop leaves there), from its end -/
def Itv (K : PySem.W.Frag) (a : Addr) (n : Nat) : It :=
  ⟨fun i H => i < n ∧ ∃ (xs : List V) (x : V), SqL K H a xs ∧ xs[n - 1 - i]? = some x, fun i H x H' => H' = H ∧ ∀ xs, SqL K H a xs → xs[n - 1 - i]? = some x, fun i _ => n ≤ i⟩
def iRev (K : PySem.W.Frag) (ta : TA) : TI := fun σ H R => ta σ H fun vs H1 => ∃ (a : Addr) (xs : List V), vs = [.ref a] ∧ SqL K H1 a xs ∧ R (Itv K a xs.length) H1
section
variable {X : Cx} {tg : Expr}
end

/-! ### a str -/
def Its (x : Str) : It := ⟨fun i _ => i < x.cps.size, fun i H v H' => H' = H ∧ ∃ c, x.cps[i]? = some c ∧ v = .str ⟨#[c]⟩, fun i _ => x.cps.size ≤ i⟩
def iStr (te : TE) : TI := fun σ H R => te σ H fun v H1 => ∃ x, v = .str x ∧ R (Its x) H1

/-! ### a dict's keys: any dict's entries -/
section
variable {prog : Program} {w : World} {A : Around} {E : Value → Shared → Prop} {s : Shared}
end

/-! ### a locked dict -/
section
variable {X : Cx} {pins : List (Addr × Obj)} {σ : St} {H : Hp} {s : Shared} {d : Addr} {o : Obj}
end

/-- the keys of the locked dict at d, in their order -/
def Itk (d : Addr) (o : Obj) (kvs : List (Key × V)) : It :=
  ⟨fun i H => H d = some (.frz o (.dK kvs)) ∧ i < kvs.length, fun i H x H' => H' = H ∧ ∃ k v, kvs[i]? = some (k, v) ∧ x = kV k, fun i H => H d = some (.frz o (.dK kvs)) ∧ kvs.length ≤ i⟩
/-- .. of tuple keys: the key's own tuple -/
def Itkt (d : Addr) (o : Obj) (kvs : List (List Key × V)) : It :=
  ⟨fun i H => H d = some (.frz o (.dT kvs)) ∧ i < kvs.length, fun i H x H' => H' = H ∧ ∃ (k : List Key) (v : V) (q : Addr), kvs[i]? = some (k, v) ∧ x = .ref q ∧ H q = some (.tup (k.map kV)), fun i H => H d = some (.frz o (.dT kvs)) ∧ kvs.length ≤ i⟩
/-- the values -/
def Itd (d : Addr) (o : Obj) (kvs : List (Key × V)) : It :=
  ⟨fun i H => H d = some (.frz o (.dK kvs)) ∧ i < kvs.length, fun i H x H' => H' = H ∧ ∃ k, kvs[i]? = some (k, x), fun i H => H d = some (.frz o (.dK kvs)) ∧ kvs.length ≤ i⟩
/-- the pairs, each a new tuple -/
def Iti (d : Addr) (o : Obj) (kvs : List (Key × V)) : It :=
  ⟨fun i H => H d = some (.frz o (.dK kvs)) ∧ i < kvs.length, fun i H x H' => ∃ T k v, kvs[i]? = some (k, v) ∧ x = .ref T ∧ H T = none ∧ H' = upd H T (.tup [kV k, v]), fun i H => H d = some (.frz o (.dK kvs)) ∧ kvs.length ≤ i⟩
section
variable {P : Program} {w : World} {K : PySem.W.Frag} {tg : Expr} {d : Addr} {o : Obj} {es : Array DictEntry} {ep : Nat}
end

/-! ### for k in d, d.keys(), d.values(), d.items() -/
/-- the dict is locked (tLock, or by the caller) -/
def iKeys (td : TE) : TI := fun σ H R => td σ H fun x H1 => ∃ d o, x = .ref d ∧ ((∃ kvs, H1 d = some (.frz o (.dK kvs)) ∧ R (Itk d o kvs) H1) ∨ ∃ kvs, H1 d = some (.frz o (.dT kvs)) ∧ R (Itkt d o kvs) H1)
def iVals (td : TE) : TI := fun σ H R => td σ H fun x H1 => ∃ d o kvs, x = .ref d ∧ H1 d = some (.frz o (.dK kvs)) ∧ R (Itd d o kvs) H1
def iItems (td : TE) : TI := fun σ H R => td σ H fun x H1 => ∃ d o kvs, x = .ref d ∧ H1 d = some (.frz o (.dK kvs)) ∧ R (Iti d o kvs) H1
def iKeysM (td : TE) : TI := fun σ H R => td σ H fun x H1 => ∃ d o kvs, x = .ref d ∧ H1 d = some (.frz o (.dK kvs)) ∧ R (Itk d o kvs) H1
section
variable {X : Cx} {tg e : Expr} {td : TE} {apos cpos : Pos}
end

/-! ### enumerate(list) -/
/-- the list at a as it stands at each turn, each item in a new pair -/
def Ite (K : PySem.W.Frag) (a : Addr) : It :=
  ⟨fun i H => ∃ (xs : List V) (x : V), SqL K H a xs ∧ xs[i]? = some x, fun i H v H' => ∃ T x, v = .ref T ∧ H T = none ∧ H' = upd H T (.tup [.int (i : Nat), x]) ∧ ∀ xs, SqL K H a xs → xs[i]? = some x, fun i H => ∃ xs : List V, SqL K H a xs ∧ xs.length ≤ i⟩
def iEnum (K : PySem.W.Frag) (ta : TA) : TI := fun σ H R => ta σ H fun vs H1 => ∃ a xs, vs = [.ref a] ∧ SqL K H1 a xs ∧ R (Ite K a) H1
/-! ### zip(list, list) -/
/-- the lists at a and b as they stand at each turn, the items in new pairs -/
def Itz (K : PySem.W.Frag) (a b : Addr) : It :=
  ⟨fun i H => ∃ (xs ys : List V) (x y : V), SqL K H a xs ∧ SqL K H b ys ∧ xs[i]? = some x ∧ ys[i]? = some y,
    fun i H v H' => ∃ T x y, v = .ref T ∧ H T = none ∧ H' = upd H T (.tup [x, y]) ∧ (∀ xs, SqL K H a xs → xs[i]? = some x) ∧ ∀ ys, SqL K H b ys → ys[i]? = some y,
    fun i H => ∃ xs ys : List V, SqL K H a xs ∧ SqL K H b ys ∧ (xs.length ≤ i ∨ ys.length ≤ i)⟩
def iZip (K : PySem.W.Frag) (ta : TA) : TI := fun σ H R => ta σ H fun vs H1 => ∃ a b xs ys, vs = [.ref a, .ref b] ∧ SqL K H1 a xs ∧ SqL K H1 b ys ∧ R (Itz K a b) H1
end L2

section 
namespace Bits
open PySem PyProof.Rows








end Bits
end 

section 
namespace TL
open PySem PySem.Builtin PySem.Builtin.Str PySem.StrLaws

abbrev tl (x : Str) : List Nat := x.cps.toList

/-! ### the list functions -/
/-- S stands at the head of l -/
def pre (S l : List Nat) : Bool := l.take S.length == S
/-- l cut at each S from the left; k signs are still to be passed over -/
def spl (S : List Nat) : Nat → List Nat → List Nat → List (List Nat)
  | _, acc, [] => [acc]
  | 0, acc, c :: r => if pre S (c :: r) = true then acc :: spl S (S.length - 1) [] r else spl S 0 (acc ++ [c]) r
  | k + 1, acc, _ :: r => spl S k acc r
/-- what stands before the first S, and behind it -/
def par (S : List Nat) : List Nat → List Nat → Option (List Nat × List Nat)
  | _, [] => none
  | acc, c :: r => if pre S (c :: r) = true then some (acc, (c :: r).drop S.length) else par S (acc ++ [c]) r




/-! ### the model's split and partition are these -/




/-! ### computing spl and par -/

/-- joined lists -/
def joinL (S : List Nat) : List (List Nat) → List Nat
  | [] => []
  | [p] => p
  | p :: q :: r => p ++ (S ++ joinL S (q :: r))

/-! ### digits -/
/-- the signs of a number -/
def numL (n : Nat) : List Nat := (Nat.toDigits 10 n).map Char.toNat

/-! ### words: x.split() -/
def wstep (st : List (List Nat) × List Nat) (c : Nat) : List (List Nat) × List Nat :=
  if Unicode.isSpace c = true then (if st.2 = [] then st else (st.1 ++ [st.2], [])) else (st.1, st.2 ++ [c])
def wfin (st : List (List Nat) × List Nat) : List (List Nat) := if st.2 = [] then st.1 else st.1 ++ [st.2]
end TL
end 

namespace L2
open PySem PySem.Spec PyProof.Rows



/-- a new list of texts, tracked -/
def rNewStrs (ys : List Str) : Hp → VK → Prop := fun H Q => ∀ p, H p = none → Q (.ref p) (upd H p (.lst (ys.map V.str)))

section
variable {X : Cx} {pins : List (Addr × Obj)} {σ : St} {H : Hp} {s : Shared} {Q : VK}
end

section
variable {X : Cx}





/-! ### of a text alone -/

/-! ### of a text and a text -/

end

section
variable {X : Cx} {o e : Expr} {to te : TE}
def tM0 (r : V → List V → Hp → VK → Prop) (to : TE) : TE := fun σ H Q => to σ H fun x H1 => (∃ a, x = .str a) ∧ r x [] H1 Q
def tM1 (r : V → List V → Hp → VK → Prop) (to te : TE) : TE := fun σ H Q => to σ H fun x H1 => (∃ a, x = .str a) ∧ te σ H1 fun y H2 => r x [y] H2 Q

end
end L2

namespace L2
open PySem PySem.Spec PyProof.Rows

section
variable {X : Cx}
end

/-! ### slices of a text -/
theorem IsPart.raw {v : Value} {o : Option Int} (p : IsPart v o) : ∃ l : Option (Int × Tok), v = partValue l ∧ l.map (·.1) = o := by
  cases p with
  | none => exact ⟨none, rfl, rfl⟩
  | int i t => exact ⟨some (i, t), rfl, rfl⟩

/-- a part, clipped, as the text's slice reckons it -/
def clipS (n d : Nat) : Option Int → Int
  | none => (d : Int)
  | some i => max 0 (min (if i < 0 then i + (n : Int) else i) (n : Int))

/-- z[lo:hi] -/
def cutS (z : Str) (lo hi : Option Int) : Str :=
  ⟨((z.cps.toList.drop (HT.sIx z.length 0 lo)).take (HT.sIx z.length z.length hi - HT.sIx z.length 0 lo)).toArray⟩
def rSlS : V → Option Int → Option Int → Hp → VK → Prop := fun x lo hi H Q => ∃ z, x = .str z ∧ z.length ≤ sizeLine ∧ Q (.str (cutS z lo hi)) H
end L2

namespace Att
open PySem PySem.W PySem.Calls PyProof.Rows

/-! ### the script -/
theorem ints_of_wellAll {P : Params} {h : Heap} : ∀ (ns : List Int) (vs : List Value), WellAll P h vs (ns.map WData.int) → IntsAre vs ns := by
  intro ns
  induction ns with
  | nil =>
    intro vs w
    rw [List.map_nil] at w
    cases w
    exact .nil
  | cons n ns ih =>
    intro vs w
    rw [List.map_cons] at w
    cases w with
    | cons a b =>
      cases a
      exact .cons _ _ (ih _ b)

theorem script_of {l : OpenLaw} {n : Nat} (hn : l.most = some n) {P : Params} {h : Heap} {args : List WData} {vals : List Value}
    (hpre : l.row.toRowW.claim.pre args = true) (hwl : WellAll P h vals args) :
    ∃ a vs ns, vals = [Value.ref a] ∧ args = [WData.list (ns.map WData.int)] ∧ h.get? a = some { cls := .type "list", data := .seq vs.toArray } ∧ IntsAre vs ns ∧ ns.length ≤ n := by
  have hsh : WShape.hasAll [] args [.list .int] = true := (pre_splitW hpre).1
  have hc : l.pre.holds [] { args := args } = true := (pre_splitW hpre).2
  obtain ⟨d, r, rfl, h1, h2⟩ := hasAllW_cons hsh
  obtain rfl := hasAllW_nil h2
  obtain ⟨xs, rfl, h3⟩ := hasW_list h1
  obtain ⟨ns, rfl⟩ := items_int h3
  have hlen : ns.length ≤ n := by
    unfold OpenLaw.pre at hc
    have h4 : (WTm.not (.lt (.lit (.int (n : Int))) (.len (.arg 0)))).holds [] { args := [.list (ns.map .int)] } = true := by
      have h4 := (holds_andW hc).1
      rw [hn] at h4
      exact h4
    have h5 := condW_of h4 (w_not (w_lt w_lit (w_len_list (w_arg rfl))))
    rw [List.length_map] at h5
    refine Nat.le_of_not_lt fun q => ?_
    have q' : (n : Int) < ((ns.length : Nat) : Int) := by omega
    first
      | (rw [decide_eq_true q'] at h5; exact absurd h5 (by decide))
      | (simp at h5; omega)
  cases hwl with
  | cons w1 w2 =>
    cases w2
    cases w1 with
    | list ho hall => exact ⟨_, _, ns, rfl, rfl, ho, ints_of_wellAll ns _ hall, hlen⟩

theorem post_true (l : OpenLaw) (args : List WData) : l.row.toRowW.claim.post args (.bool true) args = true :=
  postW_of (r := l.row.toRowW) (X := (true == true))
    (show WShape.has [] (.bool true) .bool = true by first | rfl | decide | simp [WShape.has, WShape.arms, WShape.armsAll])
    (show (WTm.eq .res (.lit (.bool true))).value [] { args := args, res := some (.bool true), after := args } = some (.bool (true == true)) from w_eq_bool (w_res rfl) w_lit) rfl

/-! ### the attachment: holds_open's last premise (the goal 'hc' behind k_head) from a wpAny of the law's body -/

/-- the same from a codeAny of the CALL (for a layer whose function contracts speak of calls) -/
theorem attach_call {l : OpenLaw} {n : Nat} {q : Program} {loose : List Str} {XP : (Str → Option Value) → Heap → Prop} {YP : World → Heap → Prop} {d : DefRec}
    (hn : l.most = some n) (hdf : d.params.defaults = [])
    (call : ∀ (w : World) (s₀ s₁ : Shared) (mg mb : Str → Option Value) (fa : Addr) (o : Obj) (pm cd doc : Value) (a : Addr) (vs : List Value) (ns : List Int),
      Ground q loose [] XP w s₀ mg mb s₁.heap → YP w s₁.heap →
      s₁.heap.get? fa = some o → o.data = .func (docDef d.name d.params d.body d.scope pm cd doc) → s₁.heap.CodeRec cd d.name → mg d.name = some (.ref fa) →
      s₁.heap.get? a = some { cls := .type "list", data := .seq vs.toArray } → IntsAre vs ns → ns.length ≤ n → s₁.gens = #[] →
      codeAny (model l.prog w) callerA (.call (.ref fa) ⟨[.ref a], []⟩) (fun r s' => r = .ok (.ret (.bool true)) ∧ OldK s₁.heap s'.heap ∧ s'.os = s₁.os ∧ AllBare s'.gens) s₁) :
    WalkO q loose XP YP l.row.toRowW d [] (fun f vs => PySem.call f vs) := by
  intro w s₀ s₁ mg mb G Y fa o pm cd doc dV kV ho hd hcd hD hmg hg args vals as hpre hlay hrd hwl hlo
  obtain rfl : dV = .none := Dflts.none hD hdf
  obtain rfl : kV = .none := Dflts.noKw hD
  obtain ⟨a, vs, ns, rfl, rfl, hobj, hints, hlen⟩ := script_of hn hpre hwl
  refine enter_call (codeAny_mono (call w s₀ s₁ mg mb fa o pm cd doc a vs ns G Y ho (fd_plain hd) hcd hmg hobj hints hlen hg) fun r s' hq => ?_)
  obtain ⟨rfl, h2, h3, h4⟩ := hq
  exact ⟨.inl ⟨.bool true, .bool true, [], rfl, fun _ => rfl, .bool true, post_true l _, fun _ => ⟨List.Pairwise.nil, fun _ hm => (nomatch hm)⟩⟩, h2, h3, h4⟩


/-! ### rules over ANY heap (no ledger) from facts about the written part K: the library's own take a ledger (News) for what they write -/
section
variable {prog : Program} {w : World} {A : Around} {E : Value → Shared → Prop} {s : Shared} {K : Frag}





/-! the whole heap as the ledger: makes every rule that writes through a ledger a rule over any heap -/
def noObjs (h : Heap) : Heap := { h with objs := #[] }
def ledger (h : Heap) (L d : Addr) : List (Addr × Obj) := (List.range h.objs.size).filterMap fun a => if a = L ∨ a = d then none else (h.get? a).map fun o => (a, o)

end
end Att

namespace L2
open PySem PySem.Spec PyProof.Rows

theorem vals_ints : ∀ {vs : List Value} {ns : List Int}, IntsAre vs ns → Vals (ns.map V.int) vs
  | _, _, .nil => .nil
  | _, _, .cons n t h => .cons ⟨t, rfl⟩ (vals_ints h)

/-- nothing is tracked but the script, known to the object (or it is an object of the module) -/
def Only (H : Hp) : Prop := ∀ b, H b = none ∨ ∃ o xs, H b = some (.frz o (.lst xs))

/-- THE HEAD: the law's promise, at the heap behind the top. F, the promise of the law's def, may use that base is part of the heap (so K.In base, base.Ns mainGlobals mg stand in Mod) -/
theorem law_call {P : Program} {w : World} {K : PySem.W.Frag} {mg mb : Str → Option Value} {CX : CXT} {k : Nat} {fa a : Addr} {fd : FuncData} {x : Str} {sp : Sp} {s₁ : Shared} {vs : List Value} {ns : List Int}
    (KX : K.In s₁.heap) (hns : s₁.heap.Ns mainGlobals mg) (hb : s₁.heap.Ns builtinsNs mb) (hbb : ∀ x : Str, x ≠ "__name__" → mb x = bootBuiltins x) (hlim : s₁.heap.NoLimit) (hg : s₁.gens = #[])
    (ha : s₁.heap.get? a = some { cls := .type "list", data := .seq vs.toArray }) (hi : IntsAre vs ns) (hl : ns.length ≤ sizeLine) (hr : Room k callerA)
    (F : ∀ base : Heap, K.In base → base.Ns mainGlobals mg → FnOk P w K mg base CX k fa fd [x] sp) (hbind : ∀ (s : Shared) (u : Value), BindsTo s fd ⟨[u], []⟩ [(x, u)])
    (hsp : ∀ H : Hp, Only H → SqL K H a (ns.map V.int) → sp [.ref a] H (fun v _ => v = .bl true) fun _ _ _ => False)
    (hCX : ∀ H e s', CX [] H s₁ (fun _ _ _ => False) e s' → False) :
    codeAny (model P w) callerA (.call (.ref fa) ⟨[.ref a], []⟩) (fun r s' => r = .ok (.ret (.bool true)) ∧ OldK s₁.heap s'.heap ∧ s'.os = s₁.os ∧ AllBare s'.gens) s₁ := by
  have rv := vals_ints hi
  have lenV := hi.length
  -- from an abstract heap in which nothing but the script may be tracked
  have core : ∀ H : Hp, Only H → SqL K H a (ns.map V.int) → HOk P w H s₁.heap → (∀ b, H b ≠ none → b = a) → (H a ≠ none → K.lookup a = none) →
      codeAny (model P w) callerA (.call (.ref fa) ⟨[.ref a], []⟩) (fun r s' => r = .ok (.ret (.bool true)) ∧ OldK s₁.heap s'.heap ∧ s'.os = s₁.os ∧ AllBare s'.gens) s₁ := by
    intro H hO hS hok hA hK
    have base_of : ∀ {b : Addr} {o : Obj}, s₁.heap.get? b = some o → H b = none → (hidT s₁.heap H).get? b = some o := fun e n => hidT_get e n
    have noA : ∀ {b : Addr} {o : Obj} {es : Array DictEntry} {ep : Nat}, s₁.heap.get? b = some o → o.data = .dict es ep → H b = none := fun {b o es ep} e d => by
      cases q : H b with
      | none => rfl
      | some u =>
        have e' : b = a := hA b (by rw [q]; simp)
        subst e'
        rw [ha] at e; cases e
        have d' : Data.seq vs.toArray _ = Data.dict es ep := d
        cases d'
    have nsK : ∀ {b : Addr} {m : Str → Option Value}, s₁.heap.Ns b m → (hidT s₁.heap H).Ns b m := fun {b m} ⟨o, es, ep, e, d, r⟩ => ⟨o, es, ep, base_of e (noA e d), d, r⟩
    have hKb : K.In (hidT s₁.heap H) := fun b o e => base_of (KX b o e) (by
      cases q : H b with
      | none => rfl
      | some u =>
        have e' : b = a := hA b (by rw [q]; simp)
        subst e'
        rw [hK (by rw [q]; simp)] at e; cases e)
    have hM : Mod K mg (hidT s₁.heap H) := ⟨hKb, nsK hns, ⟨mb, nsK hb, hbb⟩, let ⟨mc, h1, h2⟩ := hlim; ⟨mc, nsK h1, h2⟩⟩
    have e0 : Env0 P w K mg (hidT s₁.heap H) callerA [] s₁ H := ⟨rfl, hM, fun b o e => of_hidT e, Nat.le_of_eq (hidT_size _ _), trivial, fun b hb => absurd (show b ∈ ([] : List Addr) from hb) (by simp), hok, .of_eq hg⟩
    refine codeAny_mono ((F _ hKb (nsK hns)).run callerA [] s₁ H ⟨[.ref a], []⟩ [.ref a] [.ref a] _ _ hr e0 (hbind s₁ (.ref a)) (.cons rfl .nil) (hsp H hO hS)) fun r s' h => ?_
    cases r with
    | error e => exact (hCX H e s' h).elim
    | ok fl =>
      cases fl with
      | next => exact False.elim h
      | brk => exact False.elim h
      | cont => exact False.elim h
      | ret u =>
        obtain ⟨v, H', os, bare, un, hok', r', q⟩ := h
        have q' : v = .bl true := q
        subst q'
        obtain rfl : u = Value.bool true := r'
        refine ⟨rfl, OldK.of_keep fun b o e => ?_, os, bare⟩
        cases q : H b with
        | none => exact un.keep b o e q (by intro z; exact absurd (show b ∈ ([] : List Addr) from z) (by simp)) (by simp)
        | some u =>
          rcases hO b with z | ⟨ob, xs, z⟩
          · rw [q] at z; cases z
          · have z2 := un.frzs b ob _ z
            obtain ⟨e1, _⟩ := hok b _ z
            obtain ⟨e2, _⟩ := hok' b _ z2
            rw [e] at e1; cases e1
            exact e2
  cases hk : K.lookup a with
  | some o =>
    -- the script is one of the module's own objects
    have e := KX a o hk
    rw [ha] at e
    cases e
    refine core (fun _ => none) (fun _ => .inl rfl) (.inr ⟨_, vs.toArray, _, hk, rfl, rfl, rfl, by rw [List.size_toArray, lenV]; exact hl, by simpa using rv⟩) (fun b u z => by have z' : (none : Option HO) = some u := z; cases z') (fun b z => absurd rfl z) fun z => absurd rfl z
  | none =>
    refine core (fun b => if b = a then some (.frz { cls := .type "list", data := .seq vs.toArray } (.lst (ns.map V.int))) else none) (fun b => ?_) (.inl (.inr ⟨{ cls := .type "list", data := .seq vs.toArray }, if_pos rfl⟩)) (fun b u z => ?_) (fun b z => ?_) fun _ => hk
    · by_cases hb : b = a
      · exact .inr ⟨_, _, if_pos hb⟩
      · exact .inl (if_neg hb)
    · by_cases hb : b = a
      · have z' := (if_pos hb).symm.trans z
        cases z'
        subst hb
        exact ⟨ha, by rw [List.length_map]; exact hl, vs, _, rv, ha⟩
      · have z' := (if_neg hb).symm.trans z
        cases z'
    · by_cases hb : b = a
      · exact hb
      · exact absurd (if_neg hb) z
end L2

namespace L2
open PySem PySem.Spec PyProof.Rows

abbrev KOf {K : PySem.W.Frag} {h : Heap} (_ : K.In h) : PySem.W.Frag := K

/-- the goal that k_head leaves (case hc), from the law's promise. F gives the function object fd (K's own) once, then the promise over every base -/
theorem walk_of {l : PySem.W.OpenLaw} {n k : Nat} {q : Program} {loose : List Str} {XP : (Str → Option Value) → Heap → Prop} {YP : World → Heap → Prop} {d : DefRec} {K : Params → PySem.W.Frag} {CX : World → CXT} {sp : World → Sp} {x : Str}
    (hn : l.most = some n) (hn2 : n ≤ sizeLine) (hdf : d.params.defaults = []) (hr : Room k callerA)
    (hY : ∀ (w : World) (h : Heap), YP w h → (K w.params).In h)
    (F : ∀ (w : World) (mg : Str → Option Value) (fa : Addr) (h : Heap), (K w.params).In h → h.Ns mainGlobals mg → mg d.name = some (.ref fa) →
      ∃ fd : FuncData, (∀ (s : Shared) (u : Value), BindsTo s fd ⟨[u], []⟩ [(x, u)]) ∧
        ∀ base : Heap, (K w.params).In base → base.Ns mainGlobals mg → FnOk l.prog w (K w.params) mg base (CX w) k fa fd [x] (sp w))
    (hsp : ∀ (w : World) (H : Hp) (a : Addr) (ns : List Int), ns.length ≤ n → Only H → SqL (K w.params) H a (ns.map V.int) → sp w [.ref a] H (fun v _ => v = .bl true) fun _ _ _ => False)
    (hCX : ∀ (w : World) (H : Hp) (s : Shared) (e : Value) (s' : Shared), CX w [] H s (fun _ _ _ => False) e s' → False) :
    PySem.W.WalkO q loose XP YP l.row.toRowW d [] (fun f vs => PySem.call f vs) := by
  refine Att.attach_call hn hdf fun w s₀ s₁ mg mb fa o pm cd doc a vs ns G Y ho hd hcd hmg hobj hints hlen hg => ?_
  have KX := hY w _ Y
  obtain ⟨fd, hb, hF⟩ := F w mg fa _ KX G.T.g hmg
  exact law_call KX G.T.g G.T.b G.T.builtins G.T.nolimit hg hobj hints (Nat.le_trans hlen hn2) hr hF hb (fun H hO hS => hsp w H a ns hlen hO hS) fun H e s' => hCX w H s₁ e s'
end L2

/- THE LAST THEOREM (shape; LID, My.* are yours):
   My.Adr: a structure of the addresses that your layer names (classes, functions); My.Txt K t: a structure (Prop) of the equations over K;
   My.txt_mk : {K} {implicit addresses ..} (e1 : nsIn K mainGlobals "law" = some (some (.ref f))) (e2 : K.lookup f = some ⟨oc, od, .func (fnOf "law" "law" params body scope dV kV doc pm an cdv ct), sl⟩) (e3 : codeIn K cdv "law" = true) .. : ∃ t, My.Txt K t

set_option maxRecDepth 100000 in
set_option maxHeartbeats 0 in
theorem PySem.Challenge.cw_LID_holds : PySem.Challenge.rw_LID.Holds := by
  w_on; o_law; k_head; (case hw => w_witness2)
  k_fill
  refine L2.walk_of (l := PySem.Challenge.rw_LID) (n := 63) (k := 40) (x := "script") (CX := fun w => ..) (sp := fun _ => My.sp_law) rfl (by decide) rfl ⟨rfl, by decide, by decide⟩ (fun w h Y => PySem.W.kIn_of Y) ?F ?S ?C
  case F =>
    intro w mg fa h KX G hmg
    have T : ∃ t, My.Txt (L2.KOf KX) t := by
      dsimp only [L2.KOf]                          -- K must stand as «<heap const> w.params» for k_is
      refine' My.txt_mk ?e1 ?e2 ?e3 ..
      (case e1 => PySem.W.k_is)                    -- in the order: a name -> its address -> its object -> its parts
      (case e2 => PySem.W.k_is)
      ..
    obtain ⟨t, T⟩ := T
    have e0 := hmg.symm.trans (PySem.W.mg_of KX G T.law)
    cases e0                                       -- fa is the law's own address
    exact ⟨_, fun s u => .of_eq rfl, fun base kb nb => My.law_fn T kb nb⟩     -- if «.of_eq rfl» comes too early: refine' ⟨_, ?b, fun base kb nb => My.law_fn T kb nb⟩; exact fun s u => .of_eq rfl
  case S => exact fun w H a ns hl hO hS => ..
  case C => exact ..
(the tactic k_is has no namespace: write k_is) -/

/-! SHORT WORDS over the layer: a def of the text, its body, what a loop and a test want. -/
namespace L2
open PySem PySem.Spec PyProof.Rows

/-! ### the text by places -/
/-- the j-th statement of a class's body -/
def inClass (s : Stmt) (j : Nat) : Stmt := match s with
  | .ClassDef _ _ _ body _ _ _ _ _ _ _ => body.getD j (.Pass ⟨0, 0, 0, 0⟩)
  | _ => .Pass ⟨0, 0, 0, 0⟩
def defArgs (s : Stmt) : Arguments := match s with
  | .FunctionDef _ a _ _ _ _ _ _ _ _ => a
  | _ => { posonlyargs := [], args := [], vararg := none, kwonlyargs := [], kw_defaults := [], kwarg := none, defaults := [] }
def defBody (s : Stmt) : List Stmt := match s with
  | .FunctionDef _ _ b _ _ _ _ _ _ _ => b
  | _ => []
def defScope (s : Stmt) : Scope := match s with
  | .FunctionDef _ _ _ _ _ _ sc _ _ _ => sc
  | _ => { kind := .function, names := [], isGenerator := false, isCoroutine := false }

/-! ### no exception leaves a def -/
abbrev CX0 : CXT := fun _ _ _ _ _ _ => False
abbrev E0 : XK := fun _ _ _ => False
theorem pass0 {X : Cx} : Passes CX0 X E0 := fun _ _ _ _ _ _ _ h => h.elim

/-! ### a def (or method) of the text as it stands behind the top -/
structure Fun (K : PySem.W.Frag) (x qual : Str) (st : Stmt) (f : Addr) (fd : FuncData) : Prop where
  ex : ∃ (oc : Value) (od : Option Addr) (kV doc pm : Value) (an : Option Addr) (cdv ct : Value) (osl : Array (Option Value)),
    fd = PySem.W.fnOf x qual (defArgs st) (defBody st) (defScope st) .none kV doc pm an cdv ct ∧ K.lookup f = some ⟨oc, od, .func fd, osl⟩ ∧ PySem.W.codeIn K cdv qual = true
  kp : PySem.W.keepIn K (.ref f) = true
section
variable {P : Program} {w : World} {K : PySem.W.Frag} {mg : Str → Option Value} {base : Heap}
/-- THE RULE for a def: its body as a term of rules, and the reading of that term -/
theorem Fun.ok {x qual : Str} {st : Stmt} {f : Addr} {fd : FuncData} {N ps : List Str} {k : Nat} {sp : Sp} (F : Fun K x qual st f fd) (S : FnScope N ps (defScope st)) (len : ∀ vs H Q E, sp vs H Q E → vs.length = ps.length)
    (hbody : ∀ (cdv : Value) (A : Around) (outer : List Env) (s : Shared) (H : Hp) (vs : List V) (Q : VK) (E : XK), Room k (A.deeper (envOfC qual (defScope st) s.heap.objs.size f cdv)) → sp vs H Q E →
      ∃ t, PSs (cxOf CX0 P w K mg base N qual (defScope st) f cdv A outer s H E).nox (defBody st) t ∧ t { nx := fun _ H' => Q .non H', rt := Q } (start N vs) H) : FnOk P w K mg base CX0 (k + 1) f fd ps sp := by
  obtain ⟨oc, od, kV, doc, pm, an, cdv, ct, osl, rfl, lk, hcd⟩ := F.ex
  refine fn_of lk hcd S len fun A outer s H vs Q E hr hsp => ?_
  obtain ⟨t, h, q⟩ := hbody cdv A outer s H vs Q E hr hsp
  exact ⟨t, h.nox, q⟩
/-- how its arguments bind (no defaults): h is «fun _ _ _ _ _ _ us hl => match us, hl with | [_, _], _ => rfl», one _ a parameter -/
theorem Fun.binds {x qual : Str} {st : Stmt} {f : Addr} {fd : FuncData} {ps : List Str} (F : Fun K x qual st f fd)
    (h : ∀ (kV doc pm : Value) (an : Option Addr) (cdv ct : Value) (us : List Value), us.length = ps.length → bindArgs (PySem.W.fnOf x qual (defArgs st) (defBody st) (defScope st) .none kV doc pm an cdv ct) ⟨us, []⟩ = pure (ps.zip us)) : Binds K fd ps [] := by
  obtain ⟨oc, od, kV, doc, pm, an, cdv, ct, osl, rfl, lk, hcd⟩ := F.ex
  exact .all (h kV doc pm an cdv ct)
theorem fun_mk {x qual : Str} {st : Stmt} {f : Addr} {oc : Value} {od an : Option Addr} {osl : Array (Option Value)} {kV doc pm cdv ct : Value} (l : K.lookup f = some ⟨oc, od, .func (PySem.W.fnOf x qual (defArgs st) (defBody st) (defScope st) .none kV doc pm an cdv ct), osl⟩)
    (c : PySem.W.codeIn K cdv qual = true) (k : PySem.W.keepIn K (.ref f) = true) : Fun K x qual st f (PySem.W.fnOf x qual (defArgs st) (defBody st) (defScope st) .none kV doc pm an cdv ct) := ⟨⟨oc, od, kV, doc, pm, an, cdv, ct, osl, rfl, l, c⟩, k⟩
end

/-! ### expressions in short: the name that stands in the i-th slot -/
section
variable {X : Cx}
theorem pv (i : Nat) {x : Str} {pos : Pos} (hN : X.N[i]? = some x := by rfl) (hv : Vis X.env.scope x := by first | exact Or.inl rfl | exact Or.inr (Or.inl rfl) | exact Or.inr (Or.inr rfl)) (hd : (x == ("__debug__" : Str)) = false := by decide)
    (hcd : (x == ("__classdict__" : Str)) = false := by decide) : PE X (.Name x pos) (tVar i) := pe_var hN hv hd hcd
end

/-! ### tests -/
theorem iteF {A B : Prop} (h : B) : if false = true then A else B := by
  rw [if_neg Bool.false_ne_true]
  exact h
theorem iteT {A B : Prop} (h : A) : if true = true then A else B := by
  rw [if_pos rfl]
  exact h
theorem ite2 {c A B : Prop} [Decidable c] (h1 : c → A) (h2 : ¬ c → B) : if c then A else B := by
  by_cases h : c
  · rw [if_pos h]
    exact h1 h
  · rw [if_neg h]
    exact h2 h

/-! ### heaps -/
/-- all that was tracked is as it was -/
def Same (H H' : Hp) : Prop := ∀ b o, H b = some o → H' b = some o
theorem Same.refl (H : Hp) : Same H H := fun _ _ h => h
theorem Same.trans {H H1 H2 : Hp} (a : Same H H1) (b : Same H1 H2) : Same H H2 := fun c o h => b c o (a c o h)
theorem Same.free {H H' : Hp} (e : Same H H') {l : Addr} (h : H' l = Option.none) : H l = Option.none := by
  cases q : H l with
  | none => rfl
  | some o =>
    rw [e l o q] at h
    cases h
theorem Same.seq {K : PySem.W.Frag} {H H' : Hp} {a : Addr} {xs : List V} (e : Same H H') (h : SqL K H a xs) : SqL K H' a xs := by
  rcases h with (h | ⟨o, h⟩) | h
  · exact .inl (.inl (e _ _ h))
  · exact .inl (.inr ⟨o, e _ _ h⟩)
  · exact .inr h

/-! ### a dict's pairs: keys that differ -/
section
variable {κ : Type} [DecidableEq κ]
end
/-! ### lists -/
theorem at_of {xs : List V} {z : Int} {j : Nat} {v : V} (e : z = (j : Int)) (h : xs[j]? = some v) : atI xs z = some v := by
  rw [e]
  exact atI_nat h
/-- a new instance and its __init__ leave all that was tracked as it was -/
theorem Same.made {H H1 : Hp} {x dx C : Addr} (nx : H x = Option.none) (nd : H dx = Option.none) (k : ∀ b o, (upd (upd H dx (.own x)) x (.ins C dx [])) b = some o → b ≠ x → H1 b = some o) : Same H H1 := fun b o e =>
  k b o (by rw [upd_ne (ne_of_none e nx), upd_ne (ne_of_none e nd)]; exact e) (ne_of_none e nx)
end L2

section
set_option Elab.async false
set_option linter.all false
set_option maxRecDepth 100000
set_option maxHeartbeats 2000000
namespace L2
open PySem PySem.Spec PyProof.Rows
open PySem.W (WData Codec OpenSpec Well WellAll ReadsW ReadsAllW)
/-! ### an answer as data -/
mutual
/-- x stands for the datum d, lists and tuples all the way -/
inductive Dw (K : PySem.W.Frag) (H : Hp) : V → WData → Prop
  | non : Dw K H .non .none
  | bl (b : Bool) : Dw K H (.bl b) (.bool b)
  | int (i : Int) : Dw K H (.int i) (.int i)
  | str (x : Str) : Dw K H (.str x) (.str x)
  | byt (b : Array UInt8) : Dw K H (.byt b) (.bytes b.toList)
  | lst {a : Addr} {xs : List V} {ds : List WData} : SqL K H a xs → DwAll K H xs ds → Dw K H (.ref a) (.list ds)
  | tup {a : Addr} {xs : List V} {ds : List WData} : SqT K H a xs → DwAll K H xs ds → Dw K H (.ref a) (.tuple ds)
inductive DwAll (K : PySem.W.Frag) (H : Hp) : List V → List WData → Prop
  | nil : DwAll K H [] []
  | cons {v : V} {vs : List V} {d : WData} {ds : List WData} : Dw K H v d → DwAll K H vs ds → DwAll K H (v :: vs) (d :: ds)
end
theorem dw_ints {K : PySem.W.Frag} {H : Hp} : ∀ ns : List Int, DwAll K H (ns.map V.int) (ns.map WData.int)
  | [] => .nil
  | n :: r => .cons (.int n) (dw_ints r)
theorem ints_dw {K : PySem.W.Frag} {H : Hp} : ∀ (ns : List Int) (xs : List V), DwAll K H xs (ns.map WData.int) → xs = ns.map V.int
  | [], xs, h => by
    cases h
    rfl
  | n :: r, xs, h => by
    cases h with
    | cons h1 h2 =>
      cases h1
      rw [ints_dw r _ h2] <;> rfl
section
variable {P : Program} {w : World} {K : PySem.W.Frag} {H : Hp} {h : Heap} {R : PySem.W.WRecords} {cl : Str → Option Addr}
theorem sqL_at {a : Addr} {xs : List V} (hok : HOk P w H h) (KX : K.In h) (q : SqL K H a xs) : ∃ (its : List Value) (o : Obj) (n : Nat), Vals xs its ∧ h.get? a = some o ∧ o.cls = .type "list" ∧ o.data = .seq its.toArray n := by
  rcases q with q | ⟨o, its, n, e, hc, _, hd, _, hv⟩
  · obtain ⟨_, its, n, hv, e⟩ := (show ObjOk P w H h a (.lst xs) from q.ok hok)
    exact ⟨its, _, n, hv, e, rfl, rfl⟩
  · exact ⟨its.toList, o, n, hv, KX _ _ e, hc, by simp [hd]⟩
theorem sqT_at {a : Addr} {xs : List V} (hok : HOk P w H h) (KX : K.In h) (q : SqT K H a xs) : ∃ (its : List Value) (o : Obj) (n : Nat), Vals xs its ∧ h.get? a = some o ∧ o.cls = .type "tuple" ∧ o.data = .seq its.toArray n := by
  rcases q with q | ⟨o, its, n, e, hc, hd, _, hv⟩
  · obtain ⟨_, its, hv, o, e, hc, n, hd⟩ := (show ObjOk P w H h a (.tup xs) from q.ok hok)
    exact ⟨its, o, n, hv, e, hc, hd⟩
  · exact ⟨its.toList, o, n, hv, KX _ _ e, hc, by simp [hd]⟩
mutual
theorem Dw.reads (hok : HOk P w H h) (KX : K.In h) : ∀ (d : WData) (v : V) (u : Value), Dw K H v d → RelV v u → ∃ as, ReadsW R cl h u d as
  | .none, _, _, x, r => by
    cases x
    cases r
    exact ⟨_, ReadsW.none⟩
  | .bool b, _, _, x, r => by
    cases x
    cases r
    exact ⟨_, ReadsW.bool b⟩
  | .int i, _, _, x, r => by
    cases x
    obtain ⟨t, rfl⟩ := r
    exact ⟨_, ReadsW.int i t⟩
  | .str s, _, _, x, r => by
    cases x
    obtain ⟨t, rfl⟩ := r
    exact ⟨_, ReadsW.str s t⟩
  | .bytes b, _, _, x, r => by
    cases x
    obtain ⟨t, rfl⟩ := r
    exact ⟨_, ReadsW.bytes _ t⟩
  | .list ds, _, _, x, r => by
    cases x with
    | lst hs ha =>
      cases r
      obtain ⟨its, o, n, rv, ho, hc, hd⟩ := sqL_at hok KX hs
      obtain ⟨as, hr⟩ := Dw.readsAll hok KX ds _ its ha rv
      exact ⟨_, ReadsW.list ho hc hd hr⟩
  | .tuple ds, _, _, x, r => by
    cases x with
    | tup hs ha =>
      cases r
      obtain ⟨its, o, n, rv, ho, hc, hd⟩ := sqT_at hok KX hs
      obtain ⟨as, hr⟩ := Dw.readsAll hok KX ds _ its ha rv
      exact ⟨_, ReadsW.tuple ho hc hd hr⟩
  | .float _, _, _, x, _ => by cases x
  | .dict _, _, _, x, _ => by cases x
  | .bytearray _, _, _, x, _ => by cases x
  | .set _, _, _, x, _ => by cases x
  | .frozenset _, _, _, x, _ => by cases x
  | .obj _ _, _, _, x, _ => by cases x
theorem Dw.readsAll (hok : HOk P w H h) (KX : K.In h) : ∀ (ds : List WData) (vs : List V) (us : List Value), DwAll K H vs ds → Vals vs us → ∃ as, ReadsAllW R cl h us ds as
  | [], _, _, x, r => by
    cases x
    cases r
    exact ⟨_, ReadsAllW.nil⟩
  | d :: ds, _, _, x, r => by
    cases x with
    | cons h1 h2 =>
      cases r with
      | cons r1 r2 =>
        obtain ⟨as, q1⟩ := Dw.reads hok KX d _ _ h1 r1
        obtain ⟨bs, q2⟩ := Dw.readsAll hok KX ds _ _ h2 r2
        exact ⟨_, ReadsAllW.cons q1 q2⟩
end
end
/-! ### the arguments -/
mutual
/-- data that a codec tells -/
def plW : WData → Bool
  | .none => true
  | .bool _ => true
  | .int _ => true
  | .str _ => true
  | .bytes _ => true
  | .list xs => plWs xs
  | .tuple xs => plWs xs
  | _ => false
def plWs : List WData → Bool
  | [] => true
  | x :: r => plW x && plWs r
end
theorem plWs_map {α : Type} {f : α → WData} (h : ∀ a, plW (f a) = true) : ∀ l : List α, plWs (l.map f) = true
  | [] => rfl
  | x :: r => by
    show (plW (f x) && plWs (r.map f)) = true
    rw [h x, plWs_map h r] <;> rfl
theorem pl_enc : ∀ (c : Codec) (a : c.denote), plW (c.enc a) = true
  | .unit, _ => rfl
  | .bool, _ => rfl
  | .int _ _, _ => rfl
  | .nat _ _, _ => rfl
  | .u8, _ => rfl
  | .bytes _ _, _ => rfl
  | .text _ _ _ _, _ => rfl
  | .list _ _ c, a => plWs_map (fun x => pl_enc c x) a
  | .pair c d, a => by
    show (plW (c.enc a.1) && (plW (d.enc a.2) && true)) = true
    rw [pl_enc c a.1, pl_enc d a.2] <;> rfl
  | .triple c d e, a => by
    show (plW (c.enc a.1) && (plW (d.enc a.2.1) && (plW (e.enc a.2.2) && true))) = true
    rw [pl_enc c a.1, pl_enc d a.2.1, pl_enc e a.2.2] <;> rfl
  | .option c, none => rfl
  | .option c, some x => pl_enc c x
theorem pl_encAll : ∀ (cs : List Codec) (a : Codec.denoteAll cs), plWs (Codec.encAll cs a) = true
  | [], _ => rfl
  | c :: cs, a => by
    show (plW (c.enc a.1) && plWs (Codec.encAll cs a.2)) = true
    rw [pl_enc c a.1, pl_encAll cs a.2] <;> rfl
theorem weight_mem : ∀ {xs : List WData} {d : WData}, d ∈ xs → d.weight ≤ WData.weightAll xs
  | [], d, h => absurd h (by simp)
  | x :: r, d, h => by
    show d.weight ≤ x.weight + 1 + WData.weightAll r
    rcases List.mem_cons.mp h with e | m
    · rw [e]
      omega
    · have z := weight_mem m
      omega
def toV : Value → V
  | .none => .non
  | .bool b => .bl b
  | .int i _ => .int i
  | .str x _ => .str x
  | .bytes b _ => .byt b
  | .ref a => .ref a
  | _ => .non
/-- a value of the arguments, its objects among A -/
def OkU (A : List Addr) : Value → Prop
  | .none => True
  | .bool _ => True
  | .int _ _ => True
  | .str _ _ => True
  | .bytes _ _ => True
  | .ref a => a ∈ A
  | _ => False
theorem OkU.mono {A B : List Addr} (h : ∀ a ∈ A, a ∈ B) : ∀ {u : Value}, OkU A u → OkU B u := fun {u} x => by
  cases u with
  | ref a => exact h a x
  | none => trivial
  | bool b => trivial
  | int i t => trivial
  | str s t => trivial
  | bytes b t => trivial
  | _ => exact False.elim x
theorem relV_toV {A : List Addr} {u : Value} (x : OkU A u) : RelV (toV u) u := by
  cases u with
  | ref a => rfl
  | none => rfl
  | bool b => rfl
  | int i t => exact ⟨t, rfl⟩
  | str s t => exact ⟨t, rfl⟩
  | bytes b t => exact ⟨t, rfl⟩
  | _ => exact False.elim x
theorem vals_toV {A : List Addr} : ∀ {vs : List Value}, (∀ u ∈ vs, OkU A u) → Vals (vs.map toV) vs
  | [], _ => .nil
  | u :: r, h => .cons (relV_toV (h u (List.mem_cons_self ..))) (vals_toV fun x hx => h x (List.mem_cons_of_mem _ hx))
/-- an object of the arguments -/
def ArgOb (h : Heap) (A : List Addr) (a : Addr) : Prop := ∃ vs : List Value, vs.length ≤ sizeLine ∧ (∀ u ∈ vs, OkU A u) ∧
  (h.get? a = some { cls := .type "list", data := .seq vs.toArray } ∨ h.get? a = some { cls := .type "tuple", data := .seq vs.toArray })
theorem ArgOb.mono {h : Heap} {A B : List Addr} {a : Addr} (k : ∀ a ∈ A, a ∈ B) (x : ArgOb h A a) : ArgOb h B a := by
  obtain ⟨vs, h1, h2, h3⟩ := x
  exact ⟨vs, h1, fun u hu => (h2 u hu).mono k, h3⟩
theorem wellAll_len {P : Params} {h : Heap} : ∀ {vs : List Value} {ds : List WData}, WellAll P h vs ds → vs.length = ds.length
  | _, _, .nil => rfl
  | _, _, .cons _ b => by
    show _ + 1 = _ + 1
    rw [wellAll_len b]
theorem well_list {P : Params} {h : Heap} {v : Value} {ds : List WData} (x : Well P h v (.list ds)) : ∃ (a : Addr) (vs : List Value), v = .ref a ∧ h.get? a = some { cls := .type "list", data := .seq vs.toArray } ∧ WellAll P h vs ds := by
  cases x with
  | list ho hall => exact ⟨_, _, rfl, ho, hall⟩
theorem well_tuple {P : Params} {h : Heap} {v : Value} {ds : List WData} (x : Well P h v (.tuple ds)) : ∃ (a : Addr) (vs : List Value), v = .ref a ∧ h.get? a = some { cls := .type "tuple", data := .seq vs.toArray } ∧ WellAll P h vs ds := by
  cases x with
  | tuple ho hall => exact ⟨_, _, rfl, ho, hall⟩
theorem well_cons {P : Params} {h : Heap} {us : List Value} {d : WData} {ds : List WData} (x : WellAll P h us (d :: ds)) : ∃ (v : Value) (vs : List Value), us = v :: vs ∧ Well P h v d ∧ WellAll P h vs ds := by
  cases x with
  | cons a b => exact ⟨_, _, rfl, a, b⟩
theorem line_of {n : Nat} (h : n ≤ 1048576) : n ≤ sizeLine := Nat.le_trans h (by decide)
section
variable {P : Params} {h : Heap}
mutual
theorem area_one : ∀ (d : WData) (v : Value), Well P h v d → plW d = true → d.weight ≤ 1048576 → ∃ A : List Addr, OkU A v ∧ ∀ a ∈ A, ArgOb h A a
  | .none, _, x, _, _ => by
    cases x
    exact ⟨[], trivial, fun a m => absurd m (by simp)⟩
  | .bool b, _, x, _, _ => by
    cases x
    exact ⟨[], trivial, fun a m => absurd m (by simp)⟩
  | .int i, _, x, _, _ => by
    cases x
    exact ⟨[], trivial, fun a m => absurd m (by simp)⟩
  | .str s, _, x, _, _ => by
    cases x
    exact ⟨[], trivial, fun a m => absurd m (by simp)⟩
  | .bytes b, _, x, _, _ => by
    cases x
    exact ⟨[], trivial, fun a m => absurd m (by simp)⟩
  | .list ds, _, x, p, z => by
    obtain ⟨a, vs, rfl, ho, hall⟩ := well_list x
    have z2 : WData.weightAll ds ≤ 1048576 := z
    obtain ⟨A, h1, h2⟩ := area_all ds _ hall p fun d hd => Nat.le_trans (weight_mem hd) z2
    have k : ∀ b ∈ A, b ∈ a :: A := fun b hb => List.mem_cons_of_mem _ hb
    refine ⟨a :: A, List.mem_cons_self .., fun b hb => ?_⟩
    rcases List.mem_cons.mp hb with e | m
    · rw [e]
      exact ⟨vs, line_of (by rw [wellAll_len hall]; exact Nat.le_trans (PySem.W.length_le_weightAllW ds) z2), fun u hu => (h1 u hu).mono k, .inl ho⟩
    · exact (h2 b m).mono k
  | .tuple ds, _, x, p, z => by
    obtain ⟨a, vs, rfl, ho, hall⟩ := well_tuple x
    have z2 : WData.weightAll ds ≤ 1048576 := z
    obtain ⟨A, h1, h2⟩ := area_all ds _ hall p fun d hd => Nat.le_trans (weight_mem hd) z2
    have k : ∀ b ∈ A, b ∈ a :: A := fun b hb => List.mem_cons_of_mem _ hb
    refine ⟨a :: A, List.mem_cons_self .., fun b hb => ?_⟩
    rcases List.mem_cons.mp hb with e | m
    · rw [e]
      exact ⟨vs, line_of (by rw [wellAll_len hall]; exact Nat.le_trans (PySem.W.length_le_weightAllW ds) z2), fun u hu => (h1 u hu).mono k, .inr ho⟩
    · exact (h2 b m).mono k
  | .float _, _, _, p, _ => Bool.noConfusion (show false = true from p)
  | .dict _, _, _, p, _ => Bool.noConfusion (show false = true from p)
  | .bytearray _, _, _, p, _ => Bool.noConfusion (show false = true from p)
  | .set _, _, _, p, _ => Bool.noConfusion (show false = true from p)
  | .frozenset _, _, _, p, _ => Bool.noConfusion (show false = true from p)
  | .obj _ _, _, _, p, _ => Bool.noConfusion (show false = true from p)
theorem area_all : ∀ (ds : List WData) (vs : List Value), WellAll P h vs ds → plWs ds = true → (∀ d ∈ ds, d.weight ≤ 1048576) → ∃ A : List Addr, (∀ u ∈ vs, OkU A u) ∧ ∀ a ∈ A, ArgOb h A a
  | [], _, x, _, _ => by
    cases x
    exact ⟨[], fun u m => absurd m (by simp), fun a m => absurd m (by simp)⟩
  | d :: ds, _, x, p, z => by
    obtain ⟨v, vs, rfl, x1, x2⟩ := well_cons x
    have q : plW d = true ∧ plWs ds = true := Bool.and_eq_true_iff.mp p
    obtain ⟨A, a1, a2⟩ := area_one d v x1 q.1 (z d (List.mem_cons_self ..))
    obtain ⟨B, b1, b2⟩ := area_all ds vs x2 q.2 fun e he => z e (List.mem_cons_of_mem _ he)
    have kA : ∀ b ∈ A, b ∈ A ++ B := fun b hb => List.mem_append.mpr (.inl hb)
    have kB : ∀ b ∈ B, b ∈ A ++ B := fun b hb => List.mem_append.mpr (.inr hb)
    refine ⟨A ++ B, fun u hu => ?_, fun b hb => ?_⟩
    · rcases List.mem_cons.mp hu with e | m
      · rw [e]
        exact a1.mono kA
      · exact (b1 u m).mono kB
    · rcases List.mem_append.mp hb with m | m
      · exact (a2 b m).mono kA
      · exact (b2 b m).mono kB
end
end
/-- what is tracked of an argument's object -/
def hoOf (o : Obj) : Option HO := match o.data with
  | .seq vs _ => if (o.cls == Value.type "list") = true then some (.frz o (.lst (vs.toList.map toV))) else some (.frz o (.tup (vs.toList.map toV)))
  | _ => none
def argH (K : PySem.W.Frag) (h : Heap) (A : List Addr) : Hp := fun b => if b ∈ A then (if (K.lookup b).isNone = true then (h.get? b).bind hoOf else none) else none
/-- nothing is tracked but what is known to the object -/
def OnlyF (H : Hp) : Prop := ∀ b, H b = none ∨ ∃ o u, H b = some (.frz o u)
theorem hoOf_lst (vs : List Value) : hoOf { cls := .type "list", data := .seq vs.toArray } = some (.frz { cls := .type "list", data := .seq vs.toArray } (.lst (vs.map toV))) := by
  show (if (Value.type "list" == Value.type "list") = true then some (HO.frz { cls := .type "list", data := .seq vs.toArray } (.lst (vs.toArray.toList.map toV))) else some (HO.frz { cls := .type "list", data := .seq vs.toArray } (.tup (vs.toArray.toList.map toV)))) = _
  rw [if_pos (beq_self_eq_true _)]
theorem hoOf_tup (vs : List Value) : hoOf { cls := .type "tuple", data := .seq vs.toArray } = some (.frz { cls := .type "tuple", data := .seq vs.toArray } (.tup (vs.map toV))) := by
  show (if (Value.type "tuple" == Value.type "list") = true then some (HO.frz { cls := .type "tuple", data := .seq vs.toArray } (.lst (vs.toArray.toList.map toV))) else some (HO.frz { cls := .type "tuple", data := .seq vs.toArray } (.tup (vs.toArray.toList.map toV)))) = _
  rw [if_neg (by decide)]
section
variable {P : Program} {w : World} {K : PySem.W.Frag} {h : Heap} {A : List Addr}
theorem argH_at {b : Addr} {o : Obj} (hb : b ∈ A) (hk : K.lookup b = none) (e : h.get? b = some o) : argH K h A b = hoOf o := by
  unfold argH
  rw [if_pos hb, hk, if_pos (show (none : Option Obj).isNone = true from rfl), e] <;> rfl
theorem of_argH {b : Addr} {u : HO} (q : argH K h A b = some u) : b ∈ A ∧ K.lookup b = none := by
  unfold argH at q
  by_cases hb : b ∈ A
  · rw [if_pos hb] at q
    cases hk : K.lookup b with
    | none => exact ⟨hb, rfl⟩
    | some o =>
      rw [hk, if_neg (by simp)] at q
      cases q
  · rw [if_neg hb] at q
    cases q
/-- what stands tracked -/
theorem argH_is (ar : ∀ a ∈ A, ArgOb h A a) {b : Addr} {u : HO} (q : argH K h A b = some u) : K.lookup b = none ∧ ∃ vs : List Value, vs.length ≤ sizeLine ∧ (∀ u ∈ vs, OkU A u) ∧
    ((h.get? b = some { cls := .type "list", data := .seq vs.toArray } ∧ u = .frz { cls := .type "list", data := .seq vs.toArray } (.lst (vs.map toV))) ∨
     (h.get? b = some { cls := .type "tuple", data := .seq vs.toArray } ∧ u = .frz { cls := .type "tuple", data := .seq vs.toArray } (.tup (vs.map toV)))) := by
  obtain ⟨hb, hk⟩ := of_argH q
  obtain ⟨vs, h1, h2, h3⟩ := ar b hb
  refine ⟨hk, vs, h1, h2, ?_⟩
  rcases h3 with e | e
  · rw [argH_at hb hk e, hoOf_lst] at q
    exact .inl ⟨e, (Option.some.inj q).symm⟩
  · rw [argH_at hb hk e, hoOf_tup] at q
    exact .inr ⟨e, (Option.some.inj q).symm⟩
theorem argH_only (ar : ∀ a ∈ A, ArgOb h A a) : OnlyF (argH K h A) := fun b => by
  cases q : argH K h A b with
  | none => exact .inl rfl
  | some u =>
    obtain ⟨_, vs, _, _, ⟨_, e⟩ | ⟨_, e⟩⟩ := argH_is ar q
    · exact .inr ⟨_, _, by rw [e]⟩
    · exact .inr ⟨_, _, by rw [e]⟩
theorem argH_ok (ar : ∀ a ∈ A, ArgOb h A a) : HOk P w (argH K h A) h := fun b u q => by
  obtain ⟨_, vs, h1, h2, ⟨e, rfl⟩ | ⟨e, rfl⟩⟩ := argH_is ar q
  · exact ⟨e, by rw [List.length_map]; exact h1, vs, _, vals_toV h2, e⟩
  · exact ⟨e, by rw [List.length_map]; exact h1, vs, vals_toV h2, _, e, rfl, _, rfl⟩
theorem seq_inj {c c' : Value} {vs us : List Value} (e : (some { cls := c, data := .seq vs.toArray } : Option Obj) = some { cls := c', data := .seq us.toArray }) : c = c' ∧ vs = us := by
  have e1 := Option.some.inj e
  have e2 : c = c' := congrArg Obj.cls e1
  have e3 : Data.seq vs.toArray = Data.seq us.toArray := congrArg Obj.data e1
  injection e3 with e4
  refine ⟨e2, ?_⟩
  have e5 := congrArg Array.toList e4
  simpa using e5
/-- a list argument -/
theorem argL (KX : K.In h) (ar : ∀ a ∈ A, ArgOb h A a) {a : Addr} {vs : List Value} (ha : a ∈ A) (e : h.get? a = some { cls := .type "list", data := .seq vs.toArray }) : (∀ u ∈ vs, OkU A u) ∧ SqL K (argH K h A) a (vs.map toV) := by
  obtain ⟨us, h1, h2, h3⟩ := ar a ha
  have hu : us = vs := by
    rcases h3 with q | q
    · rw [e] at q
      exact (seq_inj q).2.symm
    · rw [e] at q
      exact absurd (Value.type.inj (seq_inj q).1) (by decide)
  subst hu
  refine ⟨h2, ?_⟩
  cases hk : K.lookup a with
  | none => exact .inl (.inr ⟨_, by rw [argH_at ha hk e, hoOf_lst]⟩)
  | some o =>
    have e2 := KX a o hk
    rw [e] at e2
    obtain rfl := Option.some.inj e2
    exact .inr ⟨_, us.toArray, _, hk, rfl, rfl, rfl, by rw [List.size_toArray]; exact h1, by simpa using vals_toV h2⟩
theorem argT (KX : K.In h) (ar : ∀ a ∈ A, ArgOb h A a) {a : Addr} {vs : List Value} (ha : a ∈ A) (e : h.get? a = some { cls := .type "tuple", data := .seq vs.toArray }) : (∀ u ∈ vs, OkU A u) ∧ SqT K (argH K h A) a (vs.map toV) := by
  obtain ⟨us, h1, h2, h3⟩ := ar a ha
  have hu : us = vs := by
    rcases h3 with q | q
    · rw [e] at q
      exact absurd (Value.type.inj (seq_inj q).1) (by decide)
    · rw [e] at q
      exact (seq_inj q).2.symm
  subst hu
  refine ⟨h2, ?_⟩
  cases hk : K.lookup a with
  | none => exact .inl (.inr ⟨_, by rw [argH_at ha hk e, hoOf_tup]⟩)
  | some o =>
    have e2 := KX a o hk
    rw [e] at e2
    obtain rfl := Option.some.inj e2
    exact .inr ⟨_, us.toArray, _, hk, rfl, rfl, by rw [List.size_toArray]; exact h1, by simpa using vals_toV h2⟩
mutual
theorem dw_one {Pm : Params} (KX : K.In h) (ar : ∀ a ∈ A, ArgOb h A a) : ∀ (d : WData) (v : Value), Well Pm h v d → plW d = true → OkU A v → Dw K (argH K h A) (toV v) d
  | .none, _, x, _, _ => by
    cases x
    exact .non
  | .bool b, _, x, _, _ => by
    cases x
    exact .bl b
  | .int i, _, x, _, _ => by
    cases x
    exact .int i
  | .str s, _, x, _, _ => by
    cases x
    exact .str s
  | .bytes b, _, x, _, _ => by
    cases x
    have z := Dw.byt (K := K) (H := argH K h A) b.toArray
    exact z
  | .list ds, _, x, p, hu => by
    obtain ⟨a, vs, rfl, ho, hall⟩ := well_list x
    obtain ⟨h2, hs⟩ := argL KX ar hu ho
    exact .lst hs (dw_all KX ar ds _ hall p h2)
  | .tuple ds, _, x, p, hu => by
    obtain ⟨a, vs, rfl, ho, hall⟩ := well_tuple x
    obtain ⟨h2, hs⟩ := argT KX ar hu ho
    exact .tup hs (dw_all KX ar ds _ hall p h2)
  | .float _, _, _, p, _ => Bool.noConfusion (show false = true from p)
  | .dict _, _, _, p, _ => Bool.noConfusion (show false = true from p)
  | .bytearray _, _, _, p, _ => Bool.noConfusion (show false = true from p)
  | .set _, _, _, p, _ => Bool.noConfusion (show false = true from p)
  | .frozenset _, _, _, p, _ => Bool.noConfusion (show false = true from p)
  | .obj _ _, _, _, p, _ => Bool.noConfusion (show false = true from p)
theorem dw_all {Pm : Params} (KX : K.In h) (ar : ∀ a ∈ A, ArgOb h A a) : ∀ (ds : List WData) (vs : List Value), WellAll Pm h vs ds → plWs ds = true → (∀ u ∈ vs, OkU A u) → DwAll K (argH K h A) (vs.map toV) ds
  | [], _, x, _, _ => by
    cases x
    exact .nil
  | d :: ds, _, x, p, hu => by
    obtain ⟨v, vs, rfl, x1, x2⟩ := well_cons x
    have q : plW d = true ∧ plWs ds = true := Bool.and_eq_true_iff.mp p
    exact .cons (dw_one KX ar d v x1 q.1 (hu _ (List.mem_cons_self ..))) (dw_all KX ar ds vs x2 q.2 fun u m => hu u (List.mem_cons_of_mem _ m))
end
end
/-! ### the call -/
theorem spec_call {P : Program} {w : World} {K : PySem.W.Frag} {mg mb : Str → Option Value} {CX : CXT} {k : Nat} {fa : Addr} {fd : FuncData} {ps : List Str} {sp : Sp} {s₁ : Shared} {vals : List Value} {ds : List WData} {R : PySem.W.WRecords} {cl : Str → Option Addr} {d0 : WData}
    (KX : K.In s₁.heap) (hns : s₁.heap.Ns mainGlobals mg) (hb : s₁.heap.Ns builtinsNs mb) (hbb : ∀ x : Str, x ≠ "__name__" → mb x = bootBuiltins x) (hlim : s₁.heap.NoLimit) (hg : s₁.gens = #[])
    (hwl : WellAll w.params s₁.heap vals ds) (hpl : plWs ds = true) (hwt : ∀ d ∈ ds, d.weight ≤ 1048576) (hr : Room k callerA)
    (F : ∀ base : Heap, K.In base → base.Ns mainGlobals mg → FnOk P w K mg base CX k fa fd ps sp) (hbind : ∀ (s : Shared) (us : List Value), us.length = ps.length → BindsTo s fd ⟨us, []⟩ (ps.zip us)) (hlen : ds.length = ps.length)
    (hsp : ∀ (H : Hp) (xs : List V), OnlyF H → DwAll K H xs ds → sp xs H (fun v H' => Dw K H' v d0) fun _ _ _ => False)
    (hCX : ∀ H e s', CX [] H s₁ (fun _ _ _ => False) e s' → False) :
    codeAny (model P w) callerA (.call (.ref fa) ⟨vals, []⟩) (fun r s' => ∃ u as, r = .ok (.ret u) ∧ ReadsW R cl s'.heap u d0 as ∧ OldK s₁.heap s'.heap ∧ s'.os = s₁.os ∧ AllBare s'.gens) s₁ := by
  obtain ⟨A, ho, ar⟩ := area_all ds vals hwl hpl hwt
  have hO : OnlyF (argH K s₁.heap A) := argH_only ar
  have hok : HOk P w (argH K s₁.heap A) s₁.heap := argH_ok ar
  have hS := dw_all KX ar ds vals hwl hpl ho
  have hV := vals_toV ho
  have hK : ∀ b u, argH K s₁.heap A b = some u → K.lookup b = none := fun b u q => (argH_is ar q).1
  have noA : ∀ {b : Addr} {o : Obj} {es : Array DictEntry} {ep : Nat}, s₁.heap.get? b = some o → o.data = .dict es ep → argH K s₁.heap A b = none := fun {b o es ep} e d => by
    cases q : argH K s₁.heap A b with
    | none => rfl
    | some u =>
      obtain ⟨_, vs, _, _, ⟨e2, _⟩ | ⟨e2, _⟩⟩ := argH_is ar q
      · rw [e2] at e
        cases e
        have d' : Data.seq vs.toArray _ = Data.dict es ep := d
        cases d'
      · rw [e2] at e
        cases e
        have d' : Data.seq vs.toArray _ = Data.dict es ep := d
        cases d'
  generalize argH K s₁.heap A = H at hO hok hS hK noA
  have base_of : ∀ {b : Addr} {o : Obj}, s₁.heap.get? b = some o → H b = none → (hidT s₁.heap H).get? b = some o := fun e n => hidT_get e n
  have nsK : ∀ {b : Addr} {m : Str → Option Value}, s₁.heap.Ns b m → (hidT s₁.heap H).Ns b m := fun {b m} ⟨o, es, ep, e, d, r⟩ => ⟨o, es, ep, base_of e (noA e d), d, r⟩
  have nK : ∀ b o, K.lookup b = some o → H b = none := fun b o e => by
    cases q : H b with
    | none => rfl
    | some u =>
      rw [hK b u q] at e
      cases e
  have hKb : K.In (hidT s₁.heap H) := fun b o e => base_of (KX b o e) (nK b o e)
  have hM : Mod K mg (hidT s₁.heap H) := ⟨hKb, nsK hns, ⟨mb, nsK hb, hbb⟩, let ⟨mc, h1, h2⟩ := hlim; ⟨mc, nsK h1, h2⟩⟩
  have e0 : Env0 P w K mg (hidT s₁.heap H) callerA [] s₁ H := ⟨rfl, hM, fun b o e => of_hidT e, Nat.le_of_eq (hidT_size _ _), trivial, fun b hb => absurd (show b ∈ ([] : List Addr) from hb) (by simp), hok, .of_eq hg⟩
  have hl : vals.length = ps.length := by rw [wellAll_len hwl]; exact hlen
  refine codeAny_mono ((F _ hKb (nsK hns)).run callerA [] s₁ H ⟨vals, []⟩ vals (vals.map toV) _ _ hr e0 (hbind s₁ vals hl) hV (hsp H _ hO hS)) fun r s' x => ?_
  cases r with
  | error e => exact (hCX H e s' x).elim
  | ok fl =>
    cases fl with
    | next => exact False.elim x
    | brk => exact False.elim x
    | cont => exact False.elim x
    | ret u =>
      obtain ⟨v, H', os, bare, un, hok', r', q⟩ := x
      have kept : ∀ b o, s₁.heap.get? b = some o → s'.heap.get? b = some o := fun b o e => by
        cases q2 : H b with
        | none => exact un.keep b o e q2 (by intro z; exact absurd (show b ∈ ([] : List Addr) from z) (by simp)) (by simp)
        | some u2 =>
          rcases hO b with z | ⟨ob, u3, z⟩
          · rw [q2] at z
            cases z
          · have z2 := un.frzs b ob _ z
            obtain ⟨e1, _⟩ := hok b _ z
            obtain ⟨e2, _⟩ := hok' b _ z2
            rw [e] at e1
            cases e1
            exact e2
      have KX' : K.In s'.heap := fun b o e => kept b o (KX b o e)
      obtain ⟨as, hrd⟩ := Dw.reads (R := R) (cl := cl) hok' KX' d0 v u q r'
      exact ⟨u, as, rfl, hrd, OldK.of_keep kept, os, bare⟩
/-! ### the row -/
theorem layable_weight {ds : List WData} (h : WData.layableAll ds = true) : ∀ d ∈ ds, d.weight ≤ 1048576 := fun d hd =>
  (PySem.W.layableW_iff.mp (List.all_eq_true.mp h d hd)).2.2
theorem encAll_len : ∀ (cs : List Codec) (a : Codec.denoteAll cs), (Codec.encAll cs a).length = cs.length
  | [], _ => rfl
  | c :: cs, a => by
    show (Codec.encAll cs a.2).length + 1 = cs.length + 1
    rw [encAll_len cs a.2]
/-- the goal that k_headS leaves (case hc), from the promise of the row's def: whatever the arguments that the codecs let and the row asks for, the def gives what stands for enc (f ..) -/
theorem walk_spec {r : OpenSpec} {k : Nat} {q : Program} {loose : List Str} {XP : (Str → Option Value) → Heap → Prop} {YP : World → Heap → Prop} {d : DefRec} {K : Params → PySem.W.Frag} {CX : World → CXT} {ps : List Str} {sp : World → Sp}
    (hwell : r.wellSaid = true) (hdf : d.params.defaults = []) (hlen : r.args.length = ps.length) (hr : Room k callerA)
    (hY : ∀ (w : World) (h : Heap), YP w h → (K w.params).In h)
    (F : ∀ (w : World) (mg : Str → Option Value) (fa : Addr) (h : Heap), YP w h → (K w.params).In h → h.Ns mainGlobals mg → mg d.name = some (.ref fa) →
      ∃ fd : FuncData, (∀ (s : Shared) (us : List Value), us.length = ps.length → BindsTo s fd ⟨us, []⟩ (ps.zip us)) ∧
        ∀ base : Heap, (K w.params).In base → base.Ns mainGlobals mg → FnOk r.prog w (K w.params) mg base (CX w) k fa fd ps (sp w))
    (hsp : ∀ (w : World) (H : Hp) (xs : List V) (a : Codec.denoteAll r.args), OnlyF H → Codec.withinAll r.args a = true → Codec.app r.args r.asked a = true → DwAll (K w.params) H xs (Codec.encAll r.args a) →
      sp w xs H (fun v H' => Dw (K w.params) H' v (r.ret.enc (Codec.app r.args r.f a))) fun _ _ _ => False)
    (hCX : ∀ (w : World) (H : Hp) (s : Shared) (e : Value) (s' : Shared), CX w [] H s (fun _ _ _ => False) e s' → False) :
    PySem.W.WalkOS q loose XP YP r d [] (fun f vs => PySem.call f vs) := by
  intro w s_0 s₁ mg mb G Y fa o pm cd doc dV kV ho hd hcd hD hmg hg args vals as hpre hlay hrd hwl hlo
  obtain ⟨a, e1, e2⟩ := PySem.W.os_pre_some hpre
  obtain ⟨e3, hwi⟩ := Codec.encAll_of_decAll r.args args a e1
  subst e3
  have KX := hY w _ Y
  obtain ⟨fd, hb, hF⟩ := F w mg fa _ Y KX G.T.g hmg
  refine PySem.W.enter_call (codeAny_mono (spec_call (R := []) (cl := classAt s_0.heap) (d0 := r.ret.enc (Codec.app r.args r.f a)) KX G.T.g G.T.b G.T.builtins G.T.nolimit hg hwl (pl_encAll _ _) (layable_weight hlay) hr hF hb (by rw [encAll_len]; exact hlen)
    (fun H xs hO hS => hsp w H xs a hO hwi e2 hS) fun H e s' => hCX w H s₁ e s') fun r' s' hq => ?_)
  obtain ⟨u, as', rfl, h1, h2, h3, h4⟩ := hq
  exact ⟨.inl ⟨u, _, as', rfl, fun _ => rfl, h1, (OpenSpec.post_iff hwell hwi _ _).mpr rfl, fun z => Bool.noConfusion (show false = true from z)⟩, h2, h3, h4⟩
/-- the same where the promise hangs on the written part alone -/
theorem walk_specK {r : OpenSpec} {k : Nat} {q : Program} {loose : List Str} {XP : (Str → Option Value) → Heap → Prop} {YP : World → Heap → Prop} {d : DefRec} {K : Params → PySem.W.Frag} {CX : CXT} {ps : List Str} {sp : PySem.W.Frag → Sp}
    (hwell : r.wellSaid = true) (hdf : d.params.defaults = []) (hlen : r.args.length = ps.length) (hr : Room k callerA)
    (hY : ∀ (w : World) (h : Heap), YP w h → (K w.params).In h)
    (F : ∀ (w : World) (mg : Str → Option Value) (fa : Addr) (h : Heap), YP w h → (K w.params).In h → h.Ns mainGlobals mg → mg d.name = some (.ref fa) →
      ∃ fd : FuncData, (∀ (s : Shared) (us : List Value), us.length = ps.length → BindsTo s fd ⟨us, []⟩ (ps.zip us)) ∧
        ∀ base : Heap, (K w.params).In base → base.Ns mainGlobals mg → FnOk r.prog w (K w.params) mg base CX k fa fd ps (sp (K w.params)))
    (hsp : ∀ (K : PySem.W.Frag) (H : Hp) (xs : List V) (a : Codec.denoteAll r.args), OnlyF H → Codec.withinAll r.args a = true → Codec.app r.args r.asked a = true → DwAll K H xs (Codec.encAll r.args a) →
      sp K xs H (fun v H' => Dw K H' v (r.ret.enc (Codec.app r.args r.f a))) fun _ _ _ => False)
    (hCX : ∀ (H : Hp) (s : Shared) (e : Value) (s' : Shared), CX [] H s (fun _ _ _ => False) e s' → False) :
    PySem.W.WalkOS q loose XP YP r d [] (fun f vs => PySem.call f vs) :=
  walk_spec (K := K) (CX := fun _ => CX) (sp := fun w => sp (K w.params)) hwell hdf hlen hr hY F (fun w H xs a h1 h2 h3 h4 => hsp (K w.params) H xs a h1 h2 h3 h4) fun _ H s e s' => hCX H s e s'
end L2
-- rests on (row put in by the clerk, for the bench that shows a file only what it spells): KE.SpHead KE.OsShapes
end

set_option maxHeartbeats 4000000
namespace LD
open PySem PySem.Spec PyProof.Rows L2

/-- a def of the text: what stands behind its name, and how its arguments bind -/
structure Df (K : PySem.W.Frag) (mg : Str → Option Value) (x : Str) (st : Stmt) (ps : List Str) (f : Addr) (fd : FuncData) : Prop where
  fn : Fun K x x st f fd
  bd : Binds K fd ps []
  at_ : mg x = some (.ref f)
/-- a whole number that the top has named -/
def Cn (mg : Str → Option Value) (x : Str) (i : Int) : Prop := ∃ t, mg x = some (.int i t)
section
variable {X : Cx}
theorem pe_cn {x : Str} {i : Int} {pos : Pos} (c : Cn X.mg x i) (hg : Gl X x := by rfl) (hd : (x == ("__debug__" : Str)) = false := by decide) : PE X (.Name x pos) (tC (.int i)) := by
  obtain ⟨t, h⟩ := c
  exact pe_glob hg h ⟨t, rfl⟩ hd
theorem pe_fn {x : Str} {st : Stmt} {ps : List Str} {f : Addr} {fd : FuncData} {k : Nat} {sp : Sp} {e : Expr} {es : List Expr} {t : TA} {p pos : Pos} (G : FnOk X.prog X.w X.K X.mg X.base CX0 k f fd ps sp) (D : Df X.K X.mg x st ps f fd) (hr : Room k X.A) (ha : PA X (e :: es) t)
    (hg : Gl X x := by rfl) (hdb : (x == ("__debug__" : Str)) = false := by decide) (he : starEach (e :: es) X.env = (false, eval e X.env) :: starEach es X.env := by rfl) (hpl : (backTo pos (starEach es X.env)).any (·.1) = false := by rfl) :
    PE X (.Call (.Name x p) (e :: es) [] pos) (tCall sp [] E0 t) := pe_call G hr hg D.at_ D.fn.kp D.bd .nil pass0 ha hdb he hpl
end

section
variable {X : Cx} {K : PySem.W.Frag}
theorem ix_listK (h : X.K = K) : IxR X (rIxL K) := h ▸ ix_list
theorem ix_tupK (h : X.K = K) : IxR X (rIxT K) := h ▸ ix_tup
theorem sl_listK (h : X.K = K) : SlR X (rSlL K) := h ▸ sl_list
theorem call_lenK (h : X.K = K) : CallR X (.builtin "len") (fun xs H Q => ∃ p ys, xs = [.ref p] ∧ (SqL K H p ys ∨ SqT K H p ys) ∧ Q (.int ys.length) H) := h ▸ call_len_seq
theorem pi_listK {tg l : Expr} {tl : TE} (h : X.K = K) (hl : PE X l tl) : PI X tg l (iList K tl) := h ▸ pi_list hl
end
theorem same_upd {H H' : Hp} {D : Addr} {o : HO} (s : Same H H') (h : H D = none) : Same H (upd H' D o) := fun b o' e => by
  rw [upd_ne (ne_of_none e h)]
  exact s b o' e
theorem same_upd0 {H : Hp} {D : Addr} {o : HO} (h : H D = none) : Same H (upd H D o) := same_upd (L2.Same.refl H) h
theorem qi {Q : VK} {i j : Int} {H : Hp} (h : Q (.int i) H) (e : i = j) : Q (.int j) H := e ▸ h

theorem take_snoc {α : Type} : ∀ {l : List α} {i : Nat} {x : α}, l[i]? = some x → l.take (i + 1) = l.take i ++ [x]
  | [], i, x, h => by simp at h
  | a :: l, 0, x, h => by
    have e : a = x := Option.some.inj h
    subst e
    rfl
  | a :: l, i + 1, x, h => by
    have ih := take_snoc (l := l) (i := i) (x := x) h
    show a :: l.take (i + 1) = a :: l.take i ++ [x]
    rw [ih]
    rfl

/-- a comprehension over a range, with a test; the new list is at D, all that was there stays -/
theorem lcr {n : Nat} {g : TG} {tt : TT} {te : TE} {vs : List Nat} {σ : L2.St} {H1 : Hp} {D : Addr} {Qd : Hp → Prop} (p : Nat → Bool) (f : Nat → V) (hn : n ≤ 1000000) (hD : H1 D = none)
    (hs : ∀ i H, i < n → Same H1 H → ∀ (R : V → Hp → Prop) (N : Hp → Prop), (p i = true → ∀ H4, Same H H4 → R (f i) H4) → (p i = false → ∀ H4, Same H H4 → N H4) →
      g (.int (0 + i)) (wipe σ vs) H fun σ2 H2 => wipe σ2 vs = wipe σ vs ∧ tt σ2 H2 fun b H3 => if b = true then te σ2 H3 R else N H3)
    (hd : ∀ H, Same H1 H → H D = some (.lst (((List.range n).filter p).map f)) → Qd H) :
    ∃ W : Nat → Nat → Hp → Prop, (∃ m, W 0 m (upd H1 D (.lst []))) ∧ ∀ i m H, W i m H →
      ((Itr 0 n).stop i H ∧ Qd H) ∨ ((Itr 0 n).go i H ∧ ∃ Nx : Hp → Prop, (∀ H', Nx H' → ∃ m', m' < m ∧ W (i + 1) m' H') ∧ ∀ x H', (Itr 0 n).yld i H x H' → g x (wipe σ vs) H' fun σ2 H2 => wipe σ2 vs = wipe σ vs ∧ tt σ2 H2 fun b H3 =>
        if b = true then te σ2 H3 fun y H4 => ∃ acc, H4 D = some (.lst acc) ∧ acc.length < sizeLine ∧ Nx (upd H4 D (.lst (acc ++ [y]))) else Nx H3) := by
  refine lc_range (fun i H => Same H1 H ∧ H D = some (.lst (((List.range i).filter p).map f))) ⟨same_upd0 hD, upd_same⟩ ?_ fun H h => hd H h.1 h.2
  rintro i H hi ⟨s1, h1⟩
  refine hs i H hi s1 _ _ (fun hp H4 s4 => ⟨_, s4 _ _ h1, ?_, same_upd (s1.trans s4) hD, ?_⟩) (fun hp H4 s4 => ⟨s1.trans s4, ?_⟩)
  · have l1 : (((List.range i).filter p).map f).length ≤ i := by
      rw [List.length_map]
      exact Nat.le_trans (List.length_filter_le _ _) (by rw [List.length_range]; exact Nat.le_refl _)
    have l2 : sizeLine = 16777216 := by decide
    omega
  · rw [upd_same, List.range_succ, List.filter_append, List.filter_cons, if_pos hp, List.filter_nil, List.map_append]
    rfl
  · rw [List.range_succ, List.filter_append, List.filter_cons, if_neg (by rw [hp]; exact Bool.false_ne_true), List.filter_nil, List.append_nil]
    exact s4 _ _ h1
/-- .. without a test -/
theorem lcr0 {n : Nat} {g : TG} {te : TE} {vs : List Nat} {σ : L2.St} {H1 : Hp} {D : Addr} {Qd : Hp → Prop} (f : Nat → V) (hn : n ≤ 1000000) (hD : H1 D = none)
    (hs : ∀ i H, i < n → Same H1 H → ∀ (R : V → Hp → Prop), (∀ H4, Same H H4 → R (f i) H4) → g (.int (0 + i)) (wipe σ vs) H fun σ2 H2 => wipe σ2 vs = wipe σ vs ∧ te σ2 H2 R)
    (hd : ∀ H, Same H1 H → H D = some (.lst ((List.range n).map f)) → Qd H) :
    ∃ W : Nat → Nat → Hp → Prop, (∃ m, W 0 m (upd H1 D (.lst []))) ∧ ∀ i m H, W i m H →
      ((Itr 0 n).stop i H ∧ Qd H) ∨ ((Itr 0 n).go i H ∧ ∃ Nx : Hp → Prop, (∀ H', Nx H' → ∃ m', m' < m ∧ W (i + 1) m' H') ∧ ∀ x H', (Itr 0 n).yld i H x H' → g x (wipe σ vs) H' fun σ2 H2 => wipe σ2 vs = wipe σ vs ∧ tYes σ2 H2 fun b H3 =>
        if b = true then te σ2 H3 fun y H4 => ∃ acc, H4 D = some (.lst acc) ∧ acc.length < sizeLine ∧ Nx (upd H4 D (.lst (acc ++ [y]))) else Nx H3) := by
  refine lcr (tt := tYes) (fun _ => true) f hn hD ?_ fun H s h => hd H s (by rw [h, List.filter_eq_self.mpr fun _ _ => rfl])
  intro i H hi s1 R N h1 h2
  have e : (fun (σ2 : L2.St) (H2 : Hp) => wipe σ2 vs = wipe σ vs ∧ tYes σ2 H2 fun b H3 => if b = true then te σ2 H3 R else N H3) = fun σ2 H2 => wipe σ2 vs = wipe σ vs ∧ te σ2 H2 R := by
    funext σ2 H2
    show (wipe σ2 vs = wipe σ vs ∧ if true = true then te σ2 H2 R else N H2) = _
    rw [if_pos rfl]
  rw [e]
  exact hs i H hi s1 R (h1 rfl)
/-- a comprehension over a list of whole numbers -/
theorem lcl {K : PySem.W.Frag} {a : Addr} {ns : List Int} {g : TG} {tt : TT} {te : TE} {vs : List Nat} {σ : L2.St} {H1 : Hp} {D : Addr} {Qd : Hp → Prop} (p : Int → Bool) (f : Int → V) (hn : ns.length ≤ 1000000) (hS : SqL K H1 a (ns.map V.int)) (hD : H1 D = none)
    (hs : ∀ (i : Nat) n H, ns[i]? = some n → Same H1 H → ∀ (R : V → Hp → Prop) (N : Hp → Prop), (p n = true → ∀ H4, Same H H4 → R (f n) H4) → (p n = false → ∀ H4, Same H H4 → N H4) →
      g (.int n) (wipe σ vs) H fun σ2 H2 => wipe σ2 vs = wipe σ vs ∧ tt σ2 H2 fun b H3 => if b = true then te σ2 H3 R else N H3)
    (hd : ∀ H, Same H1 H → H D = some (.lst ((ns.filter p).map f)) → Qd H) :
    ∃ W : Nat → Nat → Hp → Prop, (∃ m, W 0 m (upd H1 D (.lst []))) ∧ ∀ i m H, W i m H →
      ((Itl K a).stop i H ∧ Qd H) ∨ ((Itl K a).go i H ∧ ∃ Nx : Hp → Prop, (∀ H', Nx H' → ∃ m', m' < m ∧ W (i + 1) m' H') ∧ ∀ x H', (Itl K a).yld i H x H' → g x (wipe σ vs) H' fun σ2 H2 => wipe σ2 vs = wipe σ vs ∧ tt σ2 H2 fun b H3 =>
        if b = true then te σ2 H3 fun y H4 => ∃ acc, H4 D = some (.lst acc) ∧ acc.length < sizeLine ∧ Nx (upd H4 D (.lst (acc ++ [y]))) else Nx H3) := by
  refine lc_list (K := K) (a := a) (xs := ns.map V.int) (fun i H => Same H1 H ∧ H D = some (.lst (((ns.take i).filter p).map f))) ⟨same_upd0 hD, upd_same⟩ (fun i H _ h => h.1.seq hS) ?_ fun H h => hd H h.1 (by
    have h2 := h.2
    rw [List.length_map, List.take_length] at h2
    exact h2)
  rintro i x H hx ⟨s1, h1⟩
  obtain ⟨n, hi, rfl⟩ : ∃ n, ns[i]? = some n ∧ x = V.int n := by
    rw [List.getElem?_map] at hx
    cases e : ns[i]? with
    | none =>
      rw [e] at hx
      cases hx
    | some z =>
      rw [e] at hx
      exact ⟨z, rfl, (Option.some.inj hx).symm⟩
  refine hs i n H hi s1 _ _ (fun hp H4 s4 => ⟨_, s4 _ _ h1, ?_, same_upd (s1.trans s4) hD, ?_⟩) (fun hp H4 s4 => ⟨s1.trans s4, ?_⟩)
  · have l1 : (((ns.take i).filter p).map f).length ≤ ns.length := by
      rw [List.length_map]
      exact Nat.le_trans (List.length_filter_le _ _) (by rw [List.length_take]; exact Nat.min_le_right _ _)
    have l2 : sizeLine = 16777216 := by decide
    omega
  · rw [upd_same, take_snoc hi, List.filter_append, List.filter_cons, if_pos hp, List.filter_nil, List.map_append]
    rfl
  · rw [take_snoc hi, List.filter_append, List.filter_cons, if_neg (by rw [hp]; exact Bool.false_ne_true), List.filter_nil, List.append_nil]
    exact s4 _ _ h1
end LD
namespace LD
/-! lanes: the specification over lists of whole numbers, by places -/
def b2 (l : List Int) (p : Nat) : Nat := (l.getD p 0).toNat + 256 * (l.getD (p + 1) 0).toNat
def b4 (l : List Int) (p : Nat) : Nat := (l.getD p 0).toNat + 256 * ((l.getD (p + 1) 0).toNat + 256 * ((l.getD (p + 2) 0).toNat + 256 * (l.getD (p + 3) 0).toNat))
def IsBytes (l : List Int) : Prop := ∀ z ∈ l, 0 ≤ z ∧ z ≤ 255
theorem text_length (l : List Int) : (LevelsNeutral.text l).length = l.length := by
  unfold LevelsNeutral.text LevelsNeutral.nats
  rw [List.length_map, List.length_map]
theorem text_drop (l : List Int) (p : Nat) (h : p < l.length) : (LevelsNeutral.text l).drop p = UInt8.ofNat (l.getD p 0).toNat :: (LevelsNeutral.text l).drop (p + 1) := by
  have h2 : p < (LevelsNeutral.text l).length := by rw [text_length]; exact h
  rw [List.drop_eq_getElem_cons h2]
  congr 1
  simp [LevelsNeutral.text, LevelsNeutral.nats, List.getD_eq_getElem?_getD, List.getElem?_eq_getElem h]
theorem byte_at {l : List Int} (hb : IsBytes l) (p : Nat) : (UInt8.ofNat (l.getD p 0).toNat).toNat = (l.getD p 0).toNat := by
  have e : (l.getD p 0).toNat < 256 := by
    by_cases h : p < l.length
    · have := hb (l.getD p 0) (by rw [List.getD_eq_getElem?_getD, List.getElem?_eq_getElem h]; exact List.getElem_mem h)
      omega
    · rw [List.getD_eq_getElem?_getD, List.getElem?_eq_none (by omega)]
      decide
  simp only [UInt8.toNat_ofNat']
  exact Nat.mod_eq_of_lt e
theorem ofLe2 {l : List Int} (hb : IsBytes l) {p : Nat} (h : p + 2 ≤ l.length) : Mix.ofLe (((LevelsNeutral.text l).drop p).take 2) = b2 l p := by
  rw [text_drop l p (by omega), text_drop l (p + 1) (by omega)]
  show 256 * (256 * 0 + (UInt8.ofNat (l.getD (p + 1) 0).toNat).toNat) + (UInt8.ofNat (l.getD p 0).toNat).toNat = _
  rw [byte_at hb, byte_at hb, b2]
  omega
theorem ofLe4 {l : List Int} (hb : IsBytes l) {p : Nat} (h : p + 4 ≤ l.length) : Mix.ofLe (((LevelsNeutral.text l).drop p).take 4) = b4 l p := by
  rw [text_drop l p (by omega), text_drop l (p + 1) (by omega), text_drop l (p + 1 + 1) (by omega), text_drop l (p + 1 + 1 + 1) (by omega)]
  show 256 * (256 * (256 * (256 * 0 + (UInt8.ofNat (l.getD (p + 1 + 1 + 1) 0).toNat).toNat) + (UInt8.ofNat (l.getD (p + 1 + 1) 0).toNat).toNat) + (UInt8.ofNat (l.getD (p + 1) 0).toNat).toNat) + (UInt8.ofNat (l.getD p 0).toNat).toNat = _
  rw [byte_at hb, byte_at hb, byte_at hb, byte_at hb, b4, show p + 1 + 1 + 1 = p + 3 from rfl, show p + 1 + 1 = p + 2 from rfl]
  omega
/-- so many points from place p on, behind a tick and a gain -/
def ptsI (l : List Int) : (k p t g : Nat) → Except (Nat × Nat) (List (Nat × Nat))
  | 0, _, _, _ => .ok []
  | k + 1, p, t, g =>
    if l.length < p + 4 then .error (1, l.length)
    else if b4 l p = 0 ∨ 16777216 ≤ b4 l p then .error (2, p)
    else if b4 l p ≤ t then .error (3, p)
    else if l.length < p + 6 then .error (1, l.length)
    else if b2 l (p + 4) = g then .error (3, p + 4)
    else match ptsI l k (p + 6) (b4 l p) (b2 l (p + 4)) with
      | .ok x => .ok ((b4 l p, b2 l (p + 4)) :: x)
      | .error e => .error e
theorem pointsIn_eq {l : List Int} (hb : IsBytes l) : ∀ (k p t g : Nat), p ≤ l.length → Mix.pointsIn k p t g ((LevelsNeutral.text l).drop p) =
    match ptsI l k p t g with
    | .ok x => .ok (x, p + 6 * k, (LevelsNeutral.text l).drop (p + 6 * k))
    | .error e => .error ⟨e.1, e.2⟩
  | 0, p, t, g, _ => rfl
  | k + 1, p, t, g, hp => by
    unfold Mix.pointsIn ptsI
    have hl : ((LevelsNeutral.text l).drop p).length = l.length - p := by rw [List.length_drop, text_length]
    rw [hl]
    by_cases h4 : l.length < p + 4
    · rw [if_pos (show l.length - p < 4 by omega), if_pos h4]
      show Except.error (Mix.Fault.mk 1 (p + (l.length - p))) = Except.error (Mix.Fault.mk 1 l.length)
      rw [show p + (l.length - p) = l.length by omega]
    · rw [if_neg (show ¬ l.length - p < 4 by omega), if_neg h4]
      simp only []
      rw [ofLe4 hb (by omega)]
      have ht : Mix.TICKS = 16777216 := rfl
      rw [ht]
      by_cases c1 : b4 l p = 0 ∨ 16777216 ≤ b4 l p
      · rw [if_pos c1, if_pos c1]
      · rw [if_neg c1, if_neg c1]
        by_cases c2 : b4 l p ≤ t
        · rw [if_pos c2, if_pos c2]
        · rw [if_neg c2, if_neg c2]
          by_cases h6 : l.length < p + 6
          · rw [if_pos (show l.length - p < 6 by omega), if_pos h6]
            show Except.error (Mix.Fault.mk 1 (p + (l.length - p))) = Except.error (Mix.Fault.mk 1 l.length)
            rw [show p + (l.length - p) = l.length by omega]
          · rw [if_neg (show ¬ l.length - p < 6 by omega), if_neg h6, List.drop_drop, ofLe2 hb (by omega), List.drop_drop]
            by_cases c3 : b2 l (p + 4) = g
            · rw [if_pos c3, if_pos c3]
            · rw [if_neg c3, if_neg c3, pointsIn_eq hb k (p + 6) _ _ (by omega)]
              cases ptsI l k (p + 6) (b4 l p) (b2 l (p + 4)) with
              | ok x => simp only [show p + 6 + 6 * k = p + 6 * (k + 1) by omega]
              | error e => rfl
/-- a lane read, by places -/
def readI (l : List Int) : Except (Nat × Nat) (Nat × List (Nat × Nat)) :=
  if l.length < 4 then .error (1, l.length)
  else if 64 < b2 l 2 then .error (2, 2)
  else match ptsI l (b2 l 2) 4 0 (b2 l 0) with
    | .error e => .error e
    | .ok x => if l.length = 4 + 6 * b2 l 2 then .ok (b2 l 0, x) else .error (4, 4 + 6 * b2 l 2)
theorem ptsI_len {l : List Int} : ∀ {k p t g : Nat} {x : List (Nat × Nat)}, ptsI l k p t g = .ok x → x.length = k ∧ (k = 0 ∨ p + 6 * k ≤ l.length)
  | 0, p, t, g, x, h => by
    cases h
    exact ⟨rfl, .inl rfl⟩
  | k + 1, p, t, g, x, h => by
    unfold ptsI at h
    split at h
    · cases h
    · split at h
      · cases h
      · split at h
        · cases h
        · split at h
          · cases h
          · split at h
            · cases h
            · cases e : ptsI l k (p + 6) (b4 l p) (b2 l (p + 4)) with
              | error e2 =>
                rw [e] at h
                cases h
              | ok y =>
                rw [e] at h
                cases h
                have ih := ptsI_len e
                exact ⟨by rw [List.length_cons, ih.1], .inr (by rcases ih.2 with z | z <;> omega)⟩
theorem readLane_eq {l : List Int} (hb : IsBytes l) : Mix.readLane (LevelsNeutral.text l) =
    match readI l with
    | .error e => .error ⟨e.1, e.2⟩
    | .ok x => .ok ⟨x.1, x.2⟩ := by
  unfold Mix.readLane readI
  rw [text_length]
  by_cases h4 : l.length < 4
  · rw [if_pos h4, if_pos h4]
  · rw [if_neg h4, if_neg h4, ofLe2 hb (by omega)]
    have e0 : Mix.ofLe ((LevelsNeutral.text l).take 2) = b2 l 0 := ofLe2 (p := 0) hb (by omega)
    rw [e0]
    have hp : Mix.POINTS = 64 := rfl
    rw [hp]
    by_cases c1 : 64 < b2 l 2
    · rw [if_pos c1, if_pos c1]
    · rw [if_neg c1, if_neg c1, pointsIn_eq hb _ 4 _ _ (by omega)]
      cases e : ptsI l (b2 l 2) 4 0 (b2 l 0) with
      | error e2 => rfl
      | ok x =>
        have hl := ptsI_len e
        simp only []
        have hd : ((LevelsNeutral.text l).drop (4 + 6 * b2 l 2) = []) ↔ l.length = 4 + 6 * b2 l 2 := by
          rw [← List.length_eq_zero_iff, List.length_drop, text_length]
          omega
        by_cases c2 : l.length = 4 + 6 * b2 l 2
        · rw [if_pos (hd.mpr c2), if_pos c2]
        · rw [if_neg fun z => c2 (hd.mp z), if_neg c2]
/-! what is told of a lane -/
theorem b2_lt {l : List Int} (hb : IsBytes l) (p : Nat) : b2 l p < 65536 := by
  have q : ∀ p, (l.getD p 0).toNat < 256 := by
    intro p
    by_cases h : p < l.length
    · have := hb (l.getD p 0) (by rw [List.getD_eq_getElem?_getD, List.getElem?_eq_getElem h]; exact List.getElem_mem h)
      omega
    · rw [List.getD_eq_getElem?_getD, List.getElem?_eq_none (by omega)]
      decide
  have h1 := q p
  have h2 := q (p + 1)
  unfold b2
  omega
/-- ticks rise, gains are no more than 65,535, each another than the one before -/
inductive Fol : (t g : Nat) → List (Nat × Nat) → Prop
  | nil {t g} : Fol t g []
  | cons {t g u v l} : t < u → u < 16777216 → v < 65536 → v ≠ g → Fol u v l → Fol t g ((u, v) :: l)
theorem ptsI_fol {l : List Int} (hb : IsBytes l) : ∀ {k p t g : Nat} {x : List (Nat × Nat)}, ptsI l k p t g = .ok x → Fol t g x
  | 0, p, t, g, x, h => by
    cases h
    exact .nil
  | k + 1, p, t, g, x, h => by
    unfold ptsI at h
    split at h
    · cases h
    · split at h
      · cases h
      · rename_i c1
        split at h
        · cases h
        · rename_i c2
          split at h
          · cases h
          · split at h
            · cases h
            · rename_i c3
              cases e : ptsI l k (p + 6) (b4 l p) (b2 l (p + 4)) with
              | error e2 =>
                rw [e] at h
                cases h
              | ok y =>
                rw [e] at h
                cases h
                exact .cons (by omega) (by omega) (b2_lt hb _) c3 (ptsI_fol hb e)
/-! the lane that says what a function says: it hangs on the function alone -/
theorem once_mem (t : Nat) : ∀ l : List Nat, t ∈ Mix.once l ↔ t ∈ l
  | [] => Iff.rfl
  | [a] => Iff.rfl
  | a :: b :: l => by
    unfold Mix.once
    have ih := once_mem t (b :: l)
    by_cases e : a = b
    · rw [if_pos e, ih]
      simp [e]
    · rw [if_neg e, List.mem_cons, ih, List.mem_cons (a := t) (b := a)]
theorem once_strict : ∀ l : List Nat, l.Pairwise (· ≤ ·) → (Mix.once l).Pairwise (· < ·)
  | [], _ => .nil
  | [a], _ => List.pairwise_singleton _ _
  | a :: b :: l, h => by
    unfold Mix.once
    obtain ⟨h1, h2⟩ := List.pairwise_cons.mp h
    have ih := once_strict (b :: l) h2
    by_cases e : a = b
    · rw [if_pos e]
      exact ih
    · rw [if_neg e]
      refine List.pairwise_cons.mpr ⟨fun t ht => ?_, ih⟩
      have ht := (once_mem t (b :: l)).mp ht
      have hab := h1 b (List.mem_cons_self ..)
      rcases List.mem_cons.mp ht with z | z
      · omega
      · have := (List.pairwise_cons.mp h2).1 t z
        omega
theorem inOrder_mem (t : Nat) (l : List Nat) : t ∈ Mix.inOrder l ↔ t ∈ l := by
  unfold Mix.inOrder
  rw [once_mem, List.mem_mergeSort]
theorem inOrder_strict (l : List Nat) : (Mix.inOrder l).Pairwise (· < ·) := by
  unfold Mix.inOrder
  refine once_strict _ ?_
  have h := List.pairwise_mergeSort (le := fun (a b : Nat) => decide (a ≤ b)) (by simp; omega) (by simp; omega) l
  exact h.imp fun x => by simpa using x
theorem strict_ext : ∀ {a b : List Nat}, a.Pairwise (· < ·) → b.Pairwise (· < ·) → (∀ t, t ∈ a ↔ t ∈ b) → a = b
  | [], [], _, _, _ => rfl
  | [], y :: b, _, _, h => absurd ((h y).mpr (List.mem_cons_self ..)) (by simp)
  | x :: a, [], _, _, h => absurd ((h x).mp (List.mem_cons_self ..)) (by simp)
  | x :: a, y :: b, ha, hb, h => by
    obtain ⟨a1, a2⟩ := List.pairwise_cons.mp ha
    obtain ⟨b1, b2⟩ := List.pairwise_cons.mp hb
    have hx := List.mem_cons.mp ((h x).mp (List.mem_cons_self ..))
    have hy := List.mem_cons.mp ((h y).mpr (List.mem_cons_self ..))
    have e : x = y := by
      rcases hx with z | z
      · exact z
      · rcases hy with w | w
        · exact w.symm
        · have := a1 y w
          have := b1 x z
          omega
    subst e
    congr 1
    refine strict_ext a2 b2 fun t => ⟨fun m => ?_, fun m => ?_⟩
    · rcases List.mem_cons.mp ((h t).mp (List.mem_cons_of_mem _ m)) with z | z
      · have := a1 t m
        omega
      · exact z
    · rcases List.mem_cons.mp ((h t).mpr (List.mem_cons_of_mem _ m)) with z | z
      · have := b1 t m
        omega
      · exact z
theorem laneAt_eq (f : Nat → Nat) (T S : List Nat) (hS : S.Pairwise (· < ·)) (h : ∀ t, t ∈ S ↔ t ∈ T ∧ 0 < t ∧ t < 16777216 ∧ f (t - 1) ≠ f t) : Mix.laneAt f T = ⟨f 0, S.map fun t => (t, f t)⟩ := by
  unfold Mix.laneAt
  congr 2
  refine strict_ext ((inOrder_strict T).filter _) hS fun t => ?_
  rw [List.mem_filter, inOrder_mem, h]
  simp only [Bool.and_eq_true, decide_eq_true_eq, bne_iff_ne]
  exact Iff.rfl
/-- T has every tick at which f changes -/
def Covers (f : Nat → Nat) (T : List Nat) : Prop := ∀ t, 0 < t → t < 16777216 → f (t - 1) ≠ f t → t ∈ T
theorem laneAt_covers {f : Nat → Nat} {T S : List Nat} (c : Covers f T) (hS : S.Pairwise (· < ·)) (h : ∀ t, t ∈ S ↔ 0 < t ∧ t < 16777216 ∧ f (t - 1) ≠ f t) : Mix.laneAt f T = ⟨f 0, S.map fun t => (t, f t)⟩ :=
  laneAt_eq f T S hS fun t => (h t).trans ⟨fun z => ⟨c t z.1 z.2.1 z.2.2, z⟩, fun z => z.2⟩
theorem lastAt_same {t t' : Nat} : ∀ (pts : List (Nat × Nat)) (g : Nat), (∀ q ∈ pts, q.1 ≤ t ↔ q.1 ≤ t') → Mix.lastAt t g pts = Mix.lastAt t' g pts
  | [], g, _ => rfl
  | p :: l, g, h => by
    unfold Mix.lastAt
    have h1 := h p (List.mem_cons_self ..)
    have h2 := fun q hq => h q (List.mem_cons_of_mem _ hq)
    by_cases c : p.1 ≤ t
    · rw [if_pos c, if_pos (h1.mp c), lastAt_same l _ h2]
    · rw [if_neg c, if_neg fun z => c (h1.mpr z), lastAt_same l _ h2]
theorem at_change {l : Mix.Lane} {t t' : Nat} (h : l.at_ t' ≠ l.at_ t) (ht : t = t' + 1) : t ∈ l.ticks := by
  by_cases m : t ∈ l.ticks
  · exact m
  · refine absurd (lastAt_same l.points l.first fun q hq => ?_) h
    have : q.1 ≠ t := fun e => m (e ▸ List.mem_map.mpr ⟨q, hq, rfl⟩)
    omega
theorem covers_paste (l k : Mix.Lane) (a n b : Nat) : Covers (l.pasted k a n b) (l.ticks ++ ([b, b + n] ++ (k.ticks.filter fun (q : Nat) => decide (a ≤ q)).map fun (q : Nat) => b + (q - a))) := by
  intro t h0 h1 h
  unfold Mix.Lane.pasted at h
  rw [List.mem_append, List.mem_append]
  by_cases e1 : t = b
  · exact .inr (.inl (by simp [e1]))
  by_cases e2 : t = b + n
  · exact .inr (.inl (by simp [e2]))
  by_cases c : b ≤ t ∧ t < b + n
  · rw [if_pos (show b ≤ t - 1 ∧ t - 1 < b + n by omega), if_pos c] at h
    have m := at_change (t := a + (t - b)) h (by omega)
    refine .inr (.inr (List.mem_map.mpr ⟨a + (t - b), List.mem_filter.mpr ⟨m, by simp⟩, by omega⟩))
  · rw [if_neg (show ¬ (b ≤ t - 1 ∧ t - 1 < b + n) by omega), if_neg c] at h
    exact .inl (at_change h (by omega))
theorem hand_same (p : Mix.Pass) {t t' : Nat} (es : List Mix.Event) (h : ∀ e ∈ es, e.1 ≤ t ↔ e.1 ≤ t') : Mix.hand p es t = Mix.hand p es t' := by
  unfold Mix.hand
  have q : ∀ (es : List Mix.Event) (x : Mix.Hand), (∀ e ∈ es, e.1 ≤ t ↔ e.1 ≤ t') → es.foldl (fun (h : Mix.Hand) (e : Mix.Event) => if e.1 ≤ t then h.after e else h) x = es.foldl (fun (h : Mix.Hand) (e : Mix.Event) => if e.1 ≤ t' then h.after e else h) x := by
    intro es
    induction es with
    | nil => exact fun _ _ => rfl
    | cons e r ih =>
      intro x h
      have h1 := h e (List.mem_cons_self ..)
      have h2 := fun q hq => h q (List.mem_cons_of_mem _ hq)
      rw [List.foldl_cons, List.foldl_cons, ih _ h2]
      by_cases c : e.1 ≤ t
      · rw [if_pos c, if_pos (h1.mp c)]
      · rw [if_neg c, if_neg fun z => c (h1.mpr z)]
  exact q es _ h
theorem hand_since (p : Mix.Pass) (t : Nat) (es : List Mix.Event) {r : Nat} (h : (Mix.hand p es t).since = some r) : ∃ e ∈ es, e.1 = r := by
  have q : ∀ (es : List Mix.Event) (x : Mix.Hand), (es.foldl (fun (h : Mix.Hand) (e : Mix.Event) => if e.1 ≤ t then h.after e else h) x).since = some r → x.since = some r ∨ ∃ e ∈ es, e.1 = r := by
    intro es
    induction es with
    | nil => exact fun _ h => .inl h
    | cons e l ih =>
      intro x h
      rcases ih _ h with z | ⟨e', m, z⟩
      · simp only [] at z
        split at z
        · unfold Mix.Hand.after at z
          split at z
          · cases z
          · split at z
            · exact .inr ⟨e, List.mem_cons_self .., Option.some.inj z⟩
            · exact .inl z
        · exact .inl z
      · exact .inr ⟨e', List.mem_cons_of_mem _ m, z⟩
  rcases q es _ h with z | z
  · cases z
  · exact z
theorem covers_pass (l : Mix.Lane) (p : Mix.Pass) (es : List Mix.Event) : Covers (l.says p es) (l.turns p es) := by
  intro t h0 h1 h
  unfold Mix.Lane.turns
  rw [List.mem_append, List.mem_append]
  by_cases e1 : t = p.a
  · exact .inr (.inl (by simp [e1]))
  by_cases e2 : t = p.b
  · exact .inr (.inl (by simp [e2]))
  unfold Mix.Lane.says at h
  by_cases c : p.a ≤ t ∧ t < p.b
  · rw [if_pos (show p.a ≤ t - 1 ∧ t - 1 < p.b by omega), if_pos c] at h
    by_cases ev : ∃ e ∈ es, e.1 = t
    · obtain ⟨e, m, z⟩ := ev
      exact .inr (.inr (List.mem_flatMap.mpr ⟨e, m, List.mem_map.mpr ⟨0, List.mem_range.mpr (by omega), by omega⟩⟩))
    · by_cases ea : l.at_ (t - 1) = l.at_ t
      · have eh : Mix.hand p es (t - 1) = Mix.hand p es t := hand_same p es fun e m => by
          have : e.1 ≠ t := fun z => ev ⟨e, m, z⟩
          omega
        unfold Mix.heard at h
        rw [ea, eh] at h
        simp only [] at h
        split at h
        · exact absurd rfl h
        · split at h
          · exact absurd rfl h
          · split at h
            · rename_i r hr
              obtain ⟨e, m, z⟩ := hand_since p t es hr
              by_cases c1 : t - 1 - r < p.back
              · by_cases c2 : t < r
                · rw [show t - 1 - r = t - r by omega] at h
                  exact absurd rfl h
                · exact .inr (.inr (List.mem_flatMap.mpr ⟨e, m, List.mem_map.mpr ⟨t - r, List.mem_range.mpr (by omega), by omega⟩⟩))
              · rw [if_neg c1, if_neg (show ¬ t - r < p.back by omega)] at h
                exact absurd rfl h
            · exact absurd rfl h
        · exact absurd rfl h
        · exact absurd rfl h
        · exact absurd rfl h
      · exact .inl (at_change ea (by omega))
  · rw [if_neg (show ¬ (p.a ≤ t - 1 ∧ t - 1 < p.b) by omega), if_neg c] at h
    exact .inl (at_change h (by omega))
/-! bytes that are told -/
def le2 (n : Nat) : List Int := [((n % 256 : Nat) : Int), ((n / 256 % 256 : Nat) : Int)]
def le4 (n : Nat) : List Int := [((n % 256 : Nat) : Int), ((n / 256 % 256 : Nat) : Int), ((n / 65536 % 256 : Nat) : Int), ((n / 16777216 % 256 : Nat) : Int)]
theorem u8 (n : Nat) : ((UInt8.ofNat (n % 256)).toNat : Int) = ((n % 256 : Nat) : Int) := by
  rw [UInt8.toNat_ofNat']
  congr 1
  omega
theorem le2_eq (n : Nat) : ((Mix.le 2 n).map fun (c : UInt8) => (c.toNat : Int)) = le2 n := by
  show [((UInt8.ofNat (n / 1 % 256)).toNat : Int), ((UInt8.ofNat (n / 256 % 256)).toNat : Int)] = _
  rw [u8, u8, Nat.div_one]
  rfl
theorem le4_eq (n : Nat) : ((Mix.le 4 n).map fun (c : UInt8) => (c.toNat : Int)) = le4 n := by
  show [((UInt8.ofNat (n / 1 % 256)).toNat : Int), ((UInt8.ofNat (n / 256 % 256)).toNat : Int), ((UInt8.ofNat (n / 65536 % 256)).toNat : Int), ((UInt8.ofNat (n / 16777216 % 256)).toNat : Int)] = _
  rw [u8, u8, u8, u8, Nat.div_one]
  rfl
def laneBytes (first : Nat) (pts : List (Nat × Nat)) : List Int := le2 first ++ (le2 pts.length ++ pts.flatMap fun p => le4 p.1 ++ le2 p.2)
theorem bytes_eq (l : Mix.Lane) : (l.bytes.map fun (c : UInt8) => (c.toNat : Int)) = laneBytes l.first l.points := by
  unfold Mix.Lane.bytes laneBytes
  rw [List.map_append, List.map_append, le2_eq, le2_eq, List.map_flatMap]
  congr 3
  funext p
  rw [List.map_append, le4_eq, le2_eq]
theorem gives_eq (l : Mix.Lane) : LevelsNeutral.numbersOf (Mix.gives l.bytes) = ((laneBytes l.first l.points).length : Int) :: ((laneBytes l.first l.points).length : Int) :: (laneBytes l.first l.points ++ [0]) := by
  have e : l.bytes.length = (laneBytes l.first l.points).length := by rw [← bytes_eq, List.length_map]
  unfold LevelsNeutral.numbersOf Mix.gives
  simp only [bytes_eq, e]
  rfl
theorem says_eq (z : Int) : LevelsNeutral.numbersOf (Mix.says z) = [z, 0, 0] := rfl
theorem tells_eq (z : Int) (l : List Nat) : LevelsNeutral.numbersOf (Mix.tells z l) = z :: 0 :: (l.length : Int) :: l.map fun (n : Nat) => (n : Int) := by
  unfold LevelsNeutral.numbersOf Mix.tells Mix.ints
  simp only [List.length_map]
  rfl
/-! the gain at a tick: behind the first point that lies behind it nothing counts -/
/-! the fader's curve -/
end LD
namespace LD
open PySem PySem.Spec PyProof.Rows L2

/-! what the defs promise -/
/-- a new list of whole numbers comes back, all that was there stays -/
def Gives (H : Hp) (Q : VK) (l : List Int) : Prop := ∀ (H' : Hp) (p : Addr), H p = none → Same H H' → H' p = some (.lst (l.map V.int)) → Q (.ref p) H'
theorem Gives.mono {H H1 : Hp} {Q : VK} {l : List Int} (g : Gives H Q l) (s : Same H H1) : Gives H1 Q l := fun H' p n s' e => g H' p (s.free n) (s.trans s') e
theorem Gives.eq {H : Hp} {Q : VK} {l l' : List Int} (g : Gives H Q l) (e : l = l') : Gives H Q l' := e ▸ g
def spRounded : Sp := fun vs H Q _ => ∃ (a : Int) (b : Nat), vs = [.int a, .int (b : Int)] ∧ 0 < b ∧ b < 1073741824 ∧ Q (.int (Mix.rounded a b)) H
def spHeld : Sp := fun vs H Q _ => ∃ (n : Int), vs = [.int n] ∧ Q (.int (Mix.held n)) H
def spHeldGain : Sp := fun vs H Q _ => ∃ (n : Int), vs = [.int n] ∧ Q (.int (min n 65535)) H
def spAnswer : Sp := fun vs H Q _ => ∃ (n : Int) (a : Addr) (ts : List Int), vs = [.int n, .ref a] ∧ H a = some (.lst (ts.map V.int)) ∧ ts.length ≤ 100000 ∧ Gives H Q (n :: 0 :: (ts.length : Int) :: ts)
def spRefusal : Sp := fun vs H Q _ => ∃ (n : Int), vs = [.int n] ∧ Gives H Q [n, 0, 0]
/-- a sample from its exact sum, and whether it clips -/
def one (p : Int) : Int × Bool := (Mix.held (Mix.rounded p 16384), Mix.rounded p 16384 != Mix.held (Mix.rounded p 16384))
def saL (ps : List Int) : List Int := LevelsNeutral.numbersOf (Mix.shown (ps.map one))
def spSA (K : PySem.W.Frag) : Sp := fun vs H Q _ => ∃ (a : Addr) (ps : List Int), vs = [.ref a] ∧ SqL K H a (ps.map V.int) ∧ ps.length ≤ 256 ∧ Gives H Q (saL ps)
def spTimes (K : PySem.W.Frag) : Sp := fun vs H Q _ => ∃ (g : Int) (a : Addr) (ns : List Int), vs = [.int g, .ref a] ∧ SqL K H a (ns.map V.int) ∧ 0 ≤ g ∧ ns.length ≤ 6000 ∧ Gives H Q (PyWqaecd.times g ns)

/-! the mathematics -/
theorem rounded_up {a : Int} {b : Nat} (h : 2 * (a % (b : Int)) > (b : Int)) : Mix.rounded a b = a / (b : Int) + 1 := by
  unfold Mix.rounded
  rw [if_pos (Or.inl h)]
theorem rounded_even {a : Int} {b : Nat} (h : 2 * (a % (b : Int)) = (b : Int)) : Mix.rounded a b = a / (b : Int) + a / (b : Int) % 2 := by
  unfold Mix.rounded
  split
  · rename_i c
    rcases c with c | ⟨_, c⟩ <;> omega
  · rename_i c
    have : a / (b : Int) % 2 ≠ 1 := fun e => c (Or.inr ⟨h, e⟩)
    omega
theorem rounded_down {a : Int} {b : Nat} (h : ¬ 2 * (a % (b : Int)) > (b : Int)) (h2 : ¬ 2 * (a % (b : Int)) = (b : Int)) : Mix.rounded a b = a / (b : Int) := by
  unfold Mix.rounded
  rw [if_neg]
  rintro (c | ⟨c, _⟩)
  · exact h c
  · exact h2 c
end LD
namespace LD
open PySem PySem.Spec PyProof.Rows L2
def exs (ps : List Int) : List Int := ps.map fun p => Mix.rounded p 16384
def clp (e : Int) : Bool := e != Mix.held e
def sms (ps : List Int) : List Int := (exs ps).map Mix.held
def clipped (ps : List Int) : List Nat := (List.range (exs ps).length).filter fun i => clp ((exs ps).getD i 0)
def tsL (ps : List Int) (c f : Int) : List Int := sms ps ++ [c, f]
end LD
namespace LD
open PySem PySem.Spec PyProof.Rows L2
end LD
namespace LD
open PySem PySem.Spec PyProof.Rows L2
/-! glide -/
def bet (u v i : Int) : Int := Mix.rounded (u * (64 - i) + v * i) 64
def spBetween : Sp := fun vs H Q _ => ∃ (u v i : Int), vs = [.int u, .int v, .int i] ∧ (0 ≤ u ∧ u ≤ 65535) ∧ (0 ≤ v ∧ v ≤ 65535) ∧ Q (.int (bet u v i)) H
def spGlide (K : PySem.W.Frag) : Sp := fun vs H Q _ => ∃ (n u v : Int) (a : Addr) (ns : List Int), vs = [.int n, .int u, .int v, .ref a] ∧ SqL K H a (ns.map V.int) ∧ (0 ≤ n ∧ 0 ≤ u ∧ 0 ≤ v) ∧ ns.length ≤ 6000 ∧ Gives H Q (PyWqaecd.glide n u v ns)
end LD
namespace LD
open PySem PySem.Spec PyProof.Rows L2
/-! mix -/
def rowSum (n : Nat) (x ls : List Int) (i : Nat) : Int := ((List.range ls.length).map fun (j : Nat) => Mix.held (x.getD (j * n + i) 0) * ls.getD j 0).sum
def spProduct (K : PySem.W.Frag) : Sp := fun vs H Q _ => ∃ (i n : Nat) (a b : Addr) (x ls : List Int), vs = [.int (i : Int), .int (n : Int), .ref a, .ref b] ∧ SqL K H a (x.map V.int) ∧ SqL K H b (ls.map V.int) ∧ (i < n ∧ n ≤ 256 ∧ ls.length ≤ 16 ∧ x.length = n * ls.length) ∧
  ∀ H', Same H H' → Q (.int (rowSum n x ls i)) H'
def spMix (K : PySem.W.Frag) : Sp := fun vs H Q _ => ∃ (n : Int) (a b : Addr) (x g : List Int), vs = [.int n, .ref a, .ref b] ∧ SqL K H a (x.map V.int) ∧ SqL K H b (g.map V.int) ∧ (0 ≤ n ∧ ∀ z ∈ g, 0 ≤ z) ∧ (x.length ≤ 6000 ∧ g.length ≤ 100) ∧ Gives H Q (PyWqaecd.mix n x g)
end LD
namespace LD
/-! peak -/
def dists (x : List Int) : List Int := x.map fun z => ((Mix.held z).natAbs : Int)
/-! gain, position -/
def CP : List Int := [0, 128, 256, 512, 768, 1023]
def CG : List Int := [0, 64, 512, 4096, 16384, 65535]
def onI (u v s n : Int) : Int := Mix.rounded (u * (n - s) + v * s) n.toNat
/-! pan -/
/-! lanes: the faults, a turn at a time -/
def ptFault (l : List Int) (p t g : Nat) : Option (Nat × Nat) :=
  if l.length < p + 4 then some (1, l.length)
  else if b4 l p = 0 ∨ 16777216 ≤ b4 l p then some (2, p)
  else if b4 l p ≤ t then some (3, p)
  else if l.length < p + 6 then some (1, l.length)
  else if b2 l (p + 4) = g then some (3, p + 4)
  else none
def errOf {α : Type} : Except (Nat × Nat) α → Option (Nat × Nat)
  | .ok _ => none
  | .error e => some e
theorem ptsI_succ (l : List Int) (k p t g : Nat) : errOf (ptsI l (k + 1) p t g) = match ptFault l p t g with
    | some e => some e
    | none => errOf (ptsI l k (p + 6) (b4 l p) (b2 l (p + 4))) := by
  rw [ptsI, ptFault]
  by_cases c1 : l.length < p + 4
  · rw [if_pos c1, if_pos c1]; rfl
  rw [if_neg c1, if_neg c1]
  by_cases c2 : b4 l p = 0 ∨ 16777216 ≤ b4 l p
  · rw [if_pos c2, if_pos c2]; rfl
  rw [if_neg c2, if_neg c2]
  by_cases c3 : b4 l p ≤ t
  · rw [if_pos c3, if_pos c3]; rfl
  rw [if_neg c3, if_neg c3]
  by_cases c4 : l.length < p + 6
  · rw [if_pos c4, if_pos c4]; rfl
  rw [if_neg c4, if_neg c4]
  by_cases c5 : b2 l (p + 4) = g
  · rw [if_pos c5, if_pos c5]; rfl
  rw [if_neg c5, if_neg c5]
  cases ptsI l k (p + 6) (b4 l p) (b2 l (p + 4)) <;> rfl
theorem ptFault_none {l : List Int} {p t g : Nat} (h : ptFault l p t g = none) : p + 6 ≤ l.length := by
  unfold ptFault at h
  repeat' split at h
  all_goals first | (cases h; done) | omega
/-- the lane's fault, as it is looked for -/
def laneFault (l : List Int) : Option (Nat × Nat) := errOf (readI l)
theorem laneFault_eq (l : List Int) : laneFault l = if l.length < 4 then some (1, l.length) else if 64 < b2 l 2 then some (2, 2)
    else match errOf (ptsI l (b2 l 2) 4 0 (b2 l 0)) with
      | some e => some e
      | none => if l.length = 4 + 6 * b2 l 2 then none else some (4, 4 + 6 * b2 l 2) := by
  unfold laneFault readI
  by_cases c1 : l.length < 4
  · rw [if_pos c1, if_pos c1]; rfl
  rw [if_neg c1, if_neg c1]
  by_cases c2 : 64 < b2 l 2
  · rw [if_pos c2, if_pos c2]; rfl
  rw [if_neg c2, if_neg c2]
  cases ptsI l (b2 l 2) 4 0 (b2 l 0) with
  | error e => rfl
  | ok x =>
    show errOf (if l.length = 4 + 6 * b2 l 2 then _ else _) = if l.length = 4 + 6 * b2 l 2 then _ else _
    split <;> rfl
/-- the points of a lane, by their places -/
def ptsAt (l : List Int) (p k : Nat) : List (Nat × Nat) := (List.range k).map fun i => (b4 l (p + 6 * i), b2 l (p + 6 * i + 4))
theorem ptsI_at {l : List Int} : ∀ {k p t g : Nat} {x : List (Nat × Nat)}, ptsI l k p t g = .ok x → x = ptsAt l p k
  | 0, p, t, g, x, h => by
    cases h
    rfl
  | k + 1, p, t, g, x, h => by
    unfold ptsI at h
    split at h
    · cases h
    · split at h
      · cases h
      · split at h
        · cases h
        · split at h
          · cases h
          · split at h
            · cases h
            · cases e : ptsI l k (p + 6) (b4 l p) (b2 l (p + 4)) with
              | error e2 =>
                rw [e] at h
                cases h
              | ok y =>
                rw [e] at h
                cases h
                rw [ptsI_at e, ptsAt, ptsAt, List.range_succ_eq_map, List.map_cons, List.map_map]
                congr 1
                refine List.map_congr_left fun i _ => ?_
                show (b4 l (p + 6 + 6 * i), b2 l (p + 6 + 6 * i + 4)) = (b4 l (p + 6 * (i + 1)), b2 l (p + 6 * (i + 1) + 4))
                rw [show p + 6 + 6 * i = p + 6 * (i + 1) by omega]
theorem readI_ok {l : List Int} {x : Nat × List (Nat × Nat)} (h : readI l = .ok x) : l.length = 4 + 6 * b2 l 2 ∧ b2 l 2 ≤ 64 ∧ x = (b2 l 0, ptsAt l 4 (b2 l 2)) := by
  unfold readI at h
  split at h
  · cases h
  · split at h
    · cases h
    · rename_i c2
      cases e : ptsI l (b2 l 2) 4 0 (b2 l 0) with
      | error e2 =>
        rw [e] at h
        cases h
      | ok y =>
        rw [e] at h
        simp only [] at h
        split at h
        · rename_i c3
          cases h
          exact ⟨c3, by omega, by rw [ptsI_at e]⟩
        · cases h
/-- the lane that bytes without a fault tell -/
def laneOf (l : List Int) : Mix.Lane := ⟨b2 l 0, ptsAt l 4 (b2 l 2)⟩
theorem ptsAt_length (l : List Int) (p k : Nat) : (ptsAt l p k).length = k := by rw [ptsAt, List.length_map, List.length_range]
theorem laneFault_none {l : List Int} (h : laneFault l = none) : readI l = .ok (b2 l 0, ptsAt l 4 (b2 l 2)) ∧ l.length = 4 + 6 * b2 l 2 ∧ b2 l 2 ≤ 64 := by
  unfold laneFault at h
  cases e : readI l with
  | error z =>
    rw [e] at h
    cases h
  | ok x =>
    have q := readI_ok e
    exact ⟨by rw [q.2.2], q.1, q.2.1⟩
theorem lane_fol {l : List Int} (hb : IsBytes l) (h : laneFault l = none) : Fol 0 (b2 l 0) (ptsAt l 4 (b2 l 2)) := by
  have q := (laneFault_none h).1
  unfold readI at q
  split at q
  · cases q
  · split at q
    · cases q
    · cases e : ptsI l (b2 l 2) 4 0 (b2 l 0) with
      | error e2 =>
        rw [e] at q
        cases q
      | ok y =>
        have z := ptsI_at e
        subst z
        exact ptsI_fol hb e
/-- what a call on a lane's bytes answers -/
theorem ofLane_eq {l : List Int} (hb : IsBytes l) (f : Mix.Lane → Mix.Answer) : LevelsNeutral.numbersOf (Levels.ofLane (LevelsNeutral.text l) f) =
    if 1024 < l.length then [-2, 0, 0] else match laneFault l with
      | some e => [-6, 0, 2, (e.1 : Int), (e.2 : Int)]
      | none => LevelsNeutral.numbersOf (f (laneOf l)) := by
  unfold Levels.ofLane Levels.LOOKED
  rw [text_length]
  by_cases c : 1024 < l.length
  · rw [if_pos c, if_pos c]; rfl
  rw [if_neg c, if_neg c, readLane_eq hb]
  cases e : readI l with
  | error z =>
    have e2 : laneFault l = some z := by rw [laneFault, e]; rfl
    rw [e2]
    rfl
  | ok x =>
    have e2 : laneFault l = none := by rw [laneFault, e]; rfl
    rw [e2]
    have q := (readI_ok e).2.2
    subst q
    rfl
/-- the last point that isn't behind a tick, the first gain as a point at 0 -/
theorem lastAt_filter (t : Nat) : ∀ (pts : List (Nat × Nat)) (g : Nat), ((((0, g) :: pts).filter fun q => decide (q.1 ≤ t)).map fun q => q.2).getLast? = some (Mix.lastAt t g pts)
  | [], g => by
    rw [List.filter_cons, if_pos (by show decide (0 ≤ t) = true; simp)]
    rfl
  | q :: pts, g => by
    have ih := lastAt_filter t pts
    rw [List.filter_cons, if_pos (by show decide (0 ≤ t) = true; simp), List.filter_cons]
    unfold Mix.lastAt
    by_cases c : q.1 ≤ t
    · rw [if_pos c, if_pos (decide_eq_true c)]
      have e := ih q.2
      rw [List.filter_cons, if_pos (by show decide (0 ≤ t) = true; simp)] at e
      rw [List.map_cons, List.map_cons, List.getLast?_cons_cons]
      exact e
    · rw [if_neg c, if_neg (by simpa using c)]
      have e := ih g
      rw [List.filter_cons, if_pos (by show decide (0 ≤ t) = true; simp)] at e
      exact e
end LD
namespace LD
open PySem PySem.Spec PyProof.Rows L2
/-! frame: tables, count, index, comprehensions over any list, steps of six -/
/-- a tuple of whole numbers that the top has named -/
def Tb (K : PySem.W.Frag) (mg : Str → Option Value) (x : Str) (a : Addr) (ns : List Int) : Prop := mg x = some (.ref a) ∧ ∀ H : Hp, SqT K H a (ns.map V.int)
section
variable {X : Cx} {K : PySem.W.Frag}
def rCountI (K : PySem.W.Frag) : V → List V → Hp → VK → Prop := fun x xs H Q => ∃ (a : Addr) (ns : List Int) (k : Int), x = V.ref a ∧ xs = [V.int k] ∧ SqL K H a (ns.map V.int) ∧ Q (.int (ns.count k : Nat)) H
def rIndexI (K : PySem.W.Frag) : V → List V → Hp → VK → Prop := fun x xs H Q => ∃ (a : Addr) (ns : List Int) (k : Int), x = V.ref a ∧ xs = [V.int k] ∧ SqL K H a (ns.map V.int) ∧ k ∈ ns ∧ Q (.int (ns.idxOf k : Nat)) H
end
/-- a comprehension over a list of values, each of which stands for a datum -/
theorem lcp {α : Type} {K : PySem.W.Frag} {a : Addr} {xs : List V} {ds : List α} {g : TG} {tt : TT} {te : TE} {vs : List Nat} {σ : L2.St} {H1 : Hp} {D : Addr} {Qd : Hp → Prop} (p : α → Bool) (f : α → V) (hn : ds.length ≤ 1000000) (hl : xs.length = ds.length) (hS : SqL K H1 a xs) (hD : H1 D = none)
    (hs : ∀ (i : Nat) x d H, xs[i]? = some x → ds[i]? = some d → Same H1 H → ∀ (R : V → Hp → Prop) (N : Hp → Prop), (p d = true → ∀ H4, Same H H4 → R (f d) H4) → (p d = false → ∀ H4, Same H H4 → N H4) →
      g x (wipe σ vs) H fun σ2 H2 => wipe σ2 vs = wipe σ vs ∧ tt σ2 H2 fun b H3 => if b = true then te σ2 H3 R else N H3)
    (hd : ∀ H, Same H1 H → H D = some (.lst ((ds.filter p).map f)) → Qd H) :
    ∃ W : Nat → Nat → Hp → Prop, (∃ m, W 0 m (upd H1 D (.lst []))) ∧ ∀ i m H, W i m H →
      ((Itl K a).stop i H ∧ Qd H) ∨ ((Itl K a).go i H ∧ ∃ Nx : Hp → Prop, (∀ H', Nx H' → ∃ m', m' < m ∧ W (i + 1) m' H') ∧ ∀ x H', (Itl K a).yld i H x H' → g x (wipe σ vs) H' fun σ2 H2 => wipe σ2 vs = wipe σ vs ∧ tt σ2 H2 fun b H3 =>
        if b = true then te σ2 H3 fun y H4 => ∃ acc, H4 D = some (.lst acc) ∧ acc.length < sizeLine ∧ Nx (upd H4 D (.lst (acc ++ [y]))) else Nx H3) := by
  refine lc_list (K := K) (a := a) (xs := xs) (fun i H => Same H1 H ∧ H D = some (.lst (((ds.take i).filter p).map f))) ⟨same_upd0 hD, upd_same⟩ (fun i H _ h => h.1.seq hS) ?_ fun H h => hd H h.1 (by
    have h2 := h.2
    rw [hl, List.take_length] at h2
    exact h2)
  rintro i x H hx ⟨s1, h1⟩
  obtain ⟨d, hi⟩ : ∃ d, ds[i]? = some d := ⟨_, List.getElem?_eq_getElem (by rw [← hl]; exact (List.getElem?_eq_some_iff.mp hx).1)⟩
  refine hs i x d H hx hi s1 _ _ (fun hp H4 s4 => ⟨_, s4 _ _ h1, ?_, same_upd (s1.trans s4) hD, ?_⟩) (fun hp H4 s4 => ⟨s1.trans s4, ?_⟩)
  · have l1 : (((ds.take i).filter p).map f).length ≤ ds.length := by
      rw [List.length_map]
      exact Nat.le_trans (List.length_filter_le _ _) (by rw [List.length_take]; exact Nat.min_le_right _ _)
    have l2 : sizeLine = 16777216 := by decide
    omega
  · rw [upd_same, take_snoc hi, List.filter_append, List.filter_cons, if_pos hp, List.filter_nil, List.map_append]
    rfl
  · rw [take_snoc hi, List.filter_append, List.filter_cons, if_neg (by rw [hp]; exact Bool.false_ne_true), List.filter_nil, List.append_nil]
    exact s4 _ _ h1
theorem rgStep {c : Int} {k : Nat} {i j : Int} (hc : 0 < c) (hc2 : c < 1000000) (hi : 0 ≤ i) (hi2 : i ≤ 1000000) (hk : k ≤ 1000000) (hj : j ≤ 100000000) (e1 : Builtin.Range.rangeSize i j c = (k : Int)) (hj0 : 0 ≤ j) : RgC i j c k := by
  refine ⟨by omega, by omega, ?_, e1⟩
  unfold Builtin.Range.small
  rw [e1, if_pos hc]
  simp only [Builtin.Range.rangeFitsLong, Bool.and_eq_true, Bool.or_eq_true, decide_eq_true_eq, beq_iff_eq]
  omega
theorem rg6 {k : Nat} {j : Int} (hk : k ≤ 1000000) (e : j = 4 + 6 * (k : Int)) : RgC 4 j 6 k := by
  subst e
  refine rgStep (by decide) (by decide) (by decide) (by decide) hk (by omega) ?_ (by omega)
  unfold Builtin.Range.rangeSize
  rw [if_pos (by decide)]
  split <;> omega
theorem at_last {xs : List V} {v : V} (h : xs.getLast? = some v) : atI xs (-1) = some v := by
  obtain ⟨ys, rfl⟩ := List.getLast?_eq_some_iff.mp h
  exact atI_last ys v
theorem Gives.pair {H : Hp} {Q : VK} {x y : Int} (g : Gives H Q [x, y]) {q : Addr} (hq : H q = none) : Q (.ref q) (upd H q (.lst [.int x, .int y])) := g _ q hq (same_upd0 hq) upd_same
/-! promises -/
def spLine : Sp := fun vs H Q _ => ∃ (u v s n : Int), vs = [.int u, .int v, .int s, .int n] ∧ (0 ≤ u ∧ u ≤ 65535) ∧ (0 ≤ v ∧ v ≤ 65535) ∧ (0 < n ∧ n ≤ 2000) ∧ Q (.int (onI u v s n)) H
def spCurve : Sp := fun vs H Q _ => ∃ (p : Nat), vs = [.int (p : Int)] ∧ p < 1024 ∧ Q (.int (Mix.curve p : Int)) H
def spPeak (K : PySem.W.Frag) : Sp := fun vs H Q _ => ∃ (a : Addr) (x : List Int), vs = [.ref a] ∧ SqL K H a (x.map V.int) ∧ x.length ≤ 6000 ∧ Gives H Q (PyWqaecd.peak x)
def spGain (K : PySem.W.Frag) : Sp := fun vs H Q _ => ∃ (p : Int), vs = [.int p] ∧ 0 ≤ p ∧ Gives H Q (PyWqaecd.gain p)
def spPosition (K : PySem.W.Frag) : Sp := fun vs H Q _ => ∃ (g : Int), vs = [.int g] ∧ 0 ≤ g ∧ Gives H Q (PyWqaecd.position g)
def spPan (K : PySem.W.Frag) : Sp := fun vs H Q _ => ∃ (p : Int), vs = [.int p] ∧ Gives H Q (PyWqaecd.pan p)
def spTwo (K : PySem.W.Frag) : Sp := fun vs H Q _ => ∃ (a : Addr) (l : List Int) (p : Nat), vs = [.ref a, .int (p : Int)] ∧ SqL K H a (l.map V.int) ∧ IsBytes l ∧ p + 2 ≤ l.length ∧ Q (.int (b2 l p : Int)) H
def spFour (K : PySem.W.Frag) : Sp := fun vs H Q _ => ∃ (a : Addr) (l : List Int) (p : Nat), vs = [.ref a, .int (p : Int)] ∧ SqL K H a (l.map V.int) ∧ IsBytes l ∧ p + 4 ≤ l.length ∧ Q (.int (b4 l p : Int)) H
def spPF (K : PySem.W.Frag) : Sp := fun vs H Q _ => ∃ (a : Addr) (l : List Int) (p t g : Nat), vs = [.ref a, .int (p : Int), .int (t : Int), .int (g : Int)] ∧ SqL K H a (l.map V.int) ∧ IsBytes l ∧
  (∀ e : Nat × Nat, ptFault l p t g = some e → Gives H Q [(e.1 : Int), (e.2 : Int)]) ∧ (ptFault l p t g = none → Q .non H)
def spLF (K : PySem.W.Frag) : Sp := fun vs H Q _ => ∃ (a : Addr) (l : List Int), vs = [.ref a] ∧ SqL K H a (l.map V.int) ∧ IsBytes l ∧
  (∀ e : Nat × Nat, laneFault l = some e → Gives H Q [(e.1 : Int), (e.2 : Int)]) ∧ (laneFault l = none → Q .non H)
def spLR (K : PySem.W.Frag) : Sp := fun vs H Q _ => ∃ (a : Addr) (l : List Int), vs = [.ref a] ∧ SqL K H a (l.map V.int) ∧ IsBytes l ∧
  (1024 < l.length → Gives H Q [-2, 0, 0]) ∧ (¬ 1024 < l.length → (∀ e : Nat × Nat, laneFault l = some e → Gives H Q [-6, 0, 2, (e.1 : Int), (e.2 : Int)]) ∧ (laneFault l = none → Q .non H))
/-- a list of points, each a tuple of its tick and its gain -/
def PtsAt (H : Hp) (p : Addr) (ps : List Addr) (pts : List (Nat × Nat)) : Prop := H p = some (.lst (ps.map V.ref)) ∧ ps.length = pts.length ∧
  ∀ (i : Nat) (q : Nat × Nat) (b : Addr), pts[i]? = some q → ps[i]? = some b → H b = some (.tup [.int (q.1 : Int), .int (q.2 : Int)])
theorem PtsAt.mono {H H' : Hp} {p : Addr} {ps : List Addr} {pts : List (Nat × Nat)} (h : PtsAt H p ps pts) (s : Same H H') : PtsAt H' p ps pts :=
  ⟨s _ _ h.1, h.2.1, fun i q b h1 h2 => s _ _ (h.2.2 i q b h1 h2)⟩
theorem PtsAt.get {H : Hp} {p : Addr} {ps : List Addr} {pts : List (Nat × Nat)} (h : PtsAt H p ps pts) {i : Nat} {q : Nat × Nat} (e : pts[i]? = some q) : ∃ b, (ps.map V.ref)[i]? = some (.ref b) ∧ H b = some (.tup [.int (q.1 : Int), .int (q.2 : Int)]) := by
  have hi : i < ps.length := by rw [h.2.1]; exact (List.getElem?_eq_some_iff.mp e).1
  have e2 : ps[i]? = some ps[i] := List.getElem?_eq_getElem hi
  exact ⟨ps[i], by rw [List.getElem?_map, e2]; rfl, h.2.2 i q _ e e2⟩
theorem PtsAt.snoc {H : Hp} {p t : Addr} {ps : List Addr} {pts : List (Nat × Nat)} {q : Nat × Nat} (h : PtsAt H p ps pts) (ht : H t = none) :
    PtsAt (upd (upd H t (.tup [.int (q.1 : Int), .int (q.2 : Int)])) p (.lst (ps.map V.ref ++ [.ref t]))) p (ps ++ [t]) (pts ++ [q]) := by
  have hpt : p ≠ t := ne_of_none h.1 ht
  refine ⟨by rw [upd_same, List.map_append]; rfl, by rw [List.length_append, List.length_append, h.2.1]; rfl, fun i z b h1 h2 => ?_⟩
  by_cases hi : i < ps.length
  · rw [List.getElem?_append_left (by rw [← h.2.1]; exact hi)] at h1
    rw [List.getElem?_append_left hi] at h2
    have e := h.2.2 i z b h1 h2
    rw [upd_ne (ne_of e h.1 (by intro z; cases z)), upd_ne (ne_of_none e ht)]
    exact e
  · have hi2 : i = ps.length := by
      have := (List.getElem?_eq_some_iff.mp h2).1
      rw [List.length_append] at this
      have e1 : ([t] : List Addr).length = 1 := rfl
      omega
    subst hi2
    rw [h.2.1, List.getElem?_append_right (Nat.le_refl _), Nat.sub_self] at h1
    rw [List.getElem?_append_right (Nat.le_refl _), Nat.sub_self] at h2
    cases h1
    cases h2
    rw [upd_ne hpt.symm, upd_same]
theorem PtsAt.one {H : Hp} {p t : Addr} {q : Nat × Nat} (ht : H t = some (.tup [.int (q.1 : Int), .int (q.2 : Int)])) (hp : H p = none) : PtsAt (upd H p (.lst [.ref t])) p [t] [q] := by
  refine ⟨upd_same, rfl, fun i z b h1 h2 => ?_⟩
  have hi : i = 0 := by
    have := (List.getElem?_eq_some_iff.mp h2).1
    have e1 : ([t] : List Addr).length = 1 := rfl
    omega
  subst hi
  cases h1
  cases h2
  rw [upd_ne (ne_of_none ht hp)]
  exact ht
theorem PtsAt.last {H : Hp} {p : Addr} {ps : List Addr} {pts : List (Nat × Nat)} (h : PtsAt H p ps pts) {q : Nat × Nat} (e : pts.getLast? = some q) : ∃ b, (ps.map V.ref).getLast? = some (.ref b) ∧ H b = some (.tup [.int (q.1 : Int), .int (q.2 : Int)]) := by
  rw [List.getLast?_eq_getElem?] at e
  obtain ⟨b, h1, h2⟩ := h.get e
  refine ⟨b, ?_, h2⟩
  rw [List.getLast?_eq_getElem?, List.length_map, h.2.1]
  exact h1
theorem is_ref {q : Addr} : (!decide (V.ref q = V.non)) = true := by
  rw [decide_eq_false (by intro z; cases z)]
  rfl
theorem is_non : ¬ (!decide (V.non = V.non)) = true := by
  rw [decide_eq_true rfl]
  exact Bool.false_ne_true
def spPts (K : PySem.W.Frag) : Sp := fun vs H Q _ => ∃ (a : Addr) (l : List Int) (k : Nat), vs = [.ref a] ∧ SqL K H a (l.map V.int) ∧ IsBytes l ∧ l.length = 4 + 6 * k ∧ k ≤ 500 ∧
  ∀ (H' : Hp) (p : Addr) (ps : List Addr), H p = none → Same H H' → PtsAt H' p ps ((0, b2 l 0) :: ptsAt l 4 k) → Q (.ref p) H'
/-- the gain of the last of some points that isn't behind a tick -/
def lastOf (pts : List (Nat × Nat)) (t : Nat) : Option Nat := ((pts.filter fun q => decide (q.1 ≤ t)).map fun q => q.2).getLast?
def spGA (K : PySem.W.Frag) : Sp := fun vs H Q _ => ∃ (p : Addr) (ps : List Addr) (pts : List (Nat × Nat)) (t g : Nat), vs = [.ref p, .int (t : Int)] ∧ PtsAt H p ps pts ∧ pts.length ≤ 1000 ∧ lastOf pts t = some g ∧ ∀ H', Same H H' → Q (.int (g : Int)) H'
def spJudge (K : PySem.W.Frag) : Sp := fun vs H Q _ => ∃ (a : Addr) (l : List Int), vs = [.ref a] ∧ SqL K H a (l.map V.int) ∧ IsBytes l ∧ Gives H Q (PyWqaecd.judge l)
def spAt (K : PySem.W.Frag) : Sp := fun vs H Q _ => ∃ (t : Int) (a : Addr) (l : List Int), vs = [.int t, .ref a] ∧ SqL K H a (l.map V.int) ∧ IsBytes l ∧ 0 ≤ t ∧ Gives H Q (PyWqaecd.at_ t l)
/-! places of bytes -/
theorem getI {l : List Int} {p : Nat} (h : p < l.length) : (l.map V.int)[p]? = some (.int (l.getD p 0)) := by
  rw [List.getElem?_map, List.getD_eq_getElem?_getD, List.getElem?_eq_getElem h]
  rfl
theorem byte_lo {l : List Int} (hb : IsBytes l) (p : Nat) : 0 ≤ l.getD p 0 ∧ l.getD p 0 ≤ 255 := by
  by_cases h : p < l.length
  · exact hb _ (by rw [List.getD_eq_getElem?_getD, List.getElem?_eq_getElem h]; exact List.getElem_mem h)
  · rw [List.getD_eq_getElem?_getD, List.getElem?_eq_none (by omega)]
    decide
theorem b2_int {l : List Int} (hb : IsBytes l) (p : Nat) : l.getD p 0 + 256 * l.getD (p + 1) 0 = (b2 l p : Int) := by
  have h1 := byte_lo hb p
  have h2 := byte_lo hb (p + 1)
  unfold b2
  omega
theorem b4_two (l : List Int) (p : Nat) : b4 l p = b2 l p + 65536 * b2 l (p + 2) := by
  unfold b4 b2
  rw [show p + 2 + 1 = p + 3 from rfl]
  omega
theorem ptsAt_succ (l : List Int) (p k : Nat) : ptsAt l p (k + 1) = ptsAt l p k ++ [(b4 l (p + 6 * k), b2 l (p + 6 * k + 4))] := by
  unfold ptsAt
  rw [List.range_succ, List.map_append]
  rfl
end LD
namespace LD
/-! stages 4 and 5: what each call answers, by whole numbers -/
/-- a lane's bytes told, if it isn't too many points -/
def laneTold (L : Mix.Lane) : List Int := if 64 < L.points.length then [-3, 0, 0] else ((laneBytes L.first L.points).length : Int) :: ((laneBytes L.first L.points).length : Int) :: (laneBytes L.first L.points ++ [0])
theorem fits_eq (L : Mix.Lane) : LevelsNeutral.numbersOf (Levels.fits L) = laneTold L := by
  unfold Levels.fits laneTold Mix.POINTS
  split
  · rfl
  · exact gives_eq L
theorem may_eq (b : Bool) (f : Unit → Mix.Answer) : LevelsNeutral.numbersOf (Mix.may b f) = if b = true then LevelsNeutral.numbersOf (f ()) else [-1, 0, 0] := by
  unfold Mix.may
  split <;> rfl
theorem row_eq {t n : Int} {l : List Int} (hb : IsBytes l) (n0 : 0 ≤ n) : PyWqaecd.row t n l = if 256 < n then [-2, 0, 0] else if 1024 < l.length then [-2, 0, 0] else match laneFault l with
      | some e => [-6, 0, 2, (e.1 : Int), (e.2 : Int)]
      | none => n :: 0 :: n :: (List.range n.toNat).map fun i => ((laneOf l).at_ (t.toNat + i) : Int) := by
  unfold PyWqaecd.row LevelsNeutral.step LevelsNeutral.callOf
  show LevelsNeutral.numbersOf (if Levels.SAMPLES < n.toNat then _ else Levels.ofLane (LevelsNeutral.text l) fun x => Mix.tells (n.toNat : Nat) ((List.range n.toNat).map fun (i : Nat) => x.at_ (t.toNat + i))) = _
  unfold Levels.SAMPLES
  by_cases c : 256 < n
  · rw [if_pos (by omega), if_pos c]; rfl
  rw [if_neg (by omega), if_neg c, ofLane_eq hb]
  by_cases c : 1024 < l.length
  · rw [if_pos c, if_pos c]
  rw [if_neg c, if_neg c]
  cases laneFault l with
  | some e => rfl
  | none =>
    show LevelsNeutral.numbersOf (Mix.tells (n.toNat : Nat) ((List.range n.toNat).map fun (i : Nat) => (laneOf l).at_ (t.toNat + i))) = _
    rw [tells_eq, List.length_map, List.length_range, List.map_map, Int.toNat_of_nonneg n0]
    rfl
def passOf (a b mode back gain : Int) : Mix.Pass := ⟨a.toNat, b.toNat, mode.toNat, back.toNat, gain.toNat⟩
theorem ofPass_eq {l e : List Int} (hb : IsBytes l) (p : Mix.Pass) (f : Mix.Lane → List Mix.Event → Mix.Answer) : LevelsNeutral.numbersOf (Levels.ofPass (LevelsNeutral.text l) p (LevelsNeutral.nats e) f) =
    if 192 < e.length then [-2, 0, 0] else if 1024 < l.length then [-2, 0, 0] else match laneFault l with
      | some z => [-6, 0, 2, (z.1 : Int), (z.2 : Int)]
      | none => match Levels.eventsOf (LevelsNeutral.nats e) with
        | none => [-1, 0, 0]
        | some es => if p.fine es = true then LevelsNeutral.numbersOf (f (laneOf l) es) else [-1, 0, 0] := by
  unfold Levels.ofPass Levels.EVENTS
  rw [show (LevelsNeutral.nats e).length = e.length from List.length_map ..]
  by_cases c : 192 < e.length
  · rw [if_pos (by omega), if_pos c]; rfl
  rw [if_neg (by omega), if_neg c, ofLane_eq hb]
  by_cases c : 1024 < l.length
  · rw [if_pos c, if_pos c]
  rw [if_neg c, if_neg c]
  cases laneFault l with
  | some z => rfl
  | none =>
    cases Levels.eventsOf (LevelsNeutral.nats e) with
    | none => rfl
    | some es => exact may_eq (p.fine es) _
theorem pass_eq {a b mode back gain : Int} {l e : List Int} (hb : IsBytes l) : PyWqaecd.pass_of a b mode back gain l e =
    if 192 < e.length then [-2, 0, 0] else if 1024 < l.length then [-2, 0, 0] else match laneFault l with
      | some z => [-6, 0, 2, (z.1 : Int), (z.2 : Int)]
      | none => match Levels.eventsOf (LevelsNeutral.nats e) with
        | none => [-1, 0, 0]
        | some es => if (passOf a b mode back gain).fine es = true then laneTold ((laneOf l).pass (passOf a b mode back gain) es) else [-1, 0, 0] := by
  unfold PyWqaecd.pass_of LevelsNeutral.step LevelsNeutral.callOf
  show LevelsNeutral.numbersOf (Levels.ofPass (LevelsNeutral.text l) (passOf a b mode back gain) (LevelsNeutral.nats e) fun x es => Levels.fits (x.pass (passOf a b mode back gain) es)) = _
  rw [ofPass_eq hb]
  simp only [fits_eq]
theorem heard_eq {a b mode back gain t : Int} {l e : List Int} (hb : IsBytes l) : PyWqaecd.heard a b mode back gain t l e =
    if 192 < e.length then [-2, 0, 0] else if 1024 < l.length then [-2, 0, 0] else match laneFault l with
      | some z => [-6, 0, 2, (z.1 : Int), (z.2 : Int)]
      | none => match Levels.eventsOf (LevelsNeutral.nats e) with
        | none => [-1, 0, 0]
        | some es => if (passOf a b mode back gain).fine es = true then (if (decide (a.toNat ≤ t.toNat) && decide (t.toNat < b.toNat)) = true then [(Mix.heard (passOf a b mode back gain) es t.toNat ((laneOf l).at_ t.toNat) : Int), 0, 0] else [-1, 0, 0]) else [-1, 0, 0] := by
  unfold PyWqaecd.heard LevelsNeutral.step LevelsNeutral.callOf
  show LevelsNeutral.numbersOf (Levels.ofPass (LevelsNeutral.text l) (passOf a b mode back gain) (LevelsNeutral.nats e) fun x es => Mix.may (decide (a.toNat ≤ t.toNat) && decide (t.toNat < b.toNat)) (fun (_ : Unit) => Mix.says (Mix.heard (passOf a b mode back gain) es t.toNat (x.at_ t.toNat) : Nat))) = _
  rw [ofPass_eq hb]
  simp only [may_eq, says_eq]
/-! events, three numbers each, by places -/
def evAt (e : List Int) (p : Nat) : Mix.Event := ((e.getD p 0).toNat, if (e.getD (p + 1) 0).toNat = 0 then .letGo else .touched (e.getD (p + 2) 0).toNat)
def evsAt (e : List Int) (k : Nat) : List Mix.Event := (List.range k).map fun i => evAt e (3 * i)
/-- a what above 1, in the first so many events -/
def whatsOk (e : List Int) (k : Nat) : Bool := (List.range k).all fun i => decide ((e.getD (3 * i + 1) 0).toNat ≤ 1)
theorem evsAt_cons (x y z : Int) (r : List Int) (k : Nat) : evsAt (x :: y :: z :: r) (k + 1) = evAt (x :: y :: z :: r) 0 :: evsAt r k := by
  unfold evsAt
  rw [List.range_succ_eq_map, List.map_cons, List.map_map]
  rfl
theorem whatsOk_cons (x y z : Int) (r : List Int) (k : Nat) : whatsOk (x :: y :: z :: r) (k + 1) = (decide (y.toNat ≤ 1) && whatsOk r k) := by
  unfold whatsOk
  rw [List.range_succ_eq_map, List.all_cons, List.all_map]
  rfl
theorem eventsOf_eq : ∀ (k : Nat) (e : List Int), e.length = 3 * k → Levels.eventsOf (LevelsNeutral.nats e) = if whatsOk e k = true then some (evsAt e k) else none
  | 0, e, h => by
    have e0 : e = [] := List.length_eq_zero_iff.mp h
    subst e0
    rfl
  | k + 1, e, h => by
    match e, h with
    | x :: y :: z :: r, h =>
      have ih := eventsOf_eq k r (by simp only [List.length_cons] at h; omega)
      rw [evsAt_cons, whatsOk_cons]
      show (if y.toNat = 0 then (Levels.eventsOf (LevelsNeutral.nats r)).map _ else if y.toNat = 1 then (Levels.eventsOf (LevelsNeutral.nats r)).map _ else none) = _
      rw [ih]
      have ev : evAt (x :: y :: z :: r) 0 = (x.toNat, if y.toNat = 0 then Mix.What.letGo else Mix.What.touched z.toNat) := rfl
      rw [ev]
      by_cases h0 : y.toNat = 0
      · rw [if_pos h0, if_pos h0, h0]
        cases whatsOk r k <;> rfl
      · rw [if_neg h0, if_neg h0]
        by_cases h1 : y.toNat = 1
        · rw [if_pos h1, h1]
          cases whatsOk r k <;> rfl
        · rw [if_neg h1, decide_eq_false (by omega)]
          rfl
theorem eventsOf_odd : ∀ (n : Nat) (e : List Int), e.length ≤ n → e.length % 3 ≠ 0 → Levels.eventsOf (LevelsNeutral.nats e) = none
  | 0, e, h, h3 => by omega
  | n + 1, e, h, h3 => by
    match e, h, h3 with
    | [], h, h3 => exact absurd rfl h3
    | [x], h, h3 => rfl
    | [x, y], h, h3 => rfl
    | x :: y :: z :: r, h, h3 =>
      have ih := eventsOf_odd n r (by simp only [List.length_cons] at h; omega) (by simp only [List.length_cons] at h3; omega)
      show (if y.toNat = 0 then (Levels.eventsOf (LevelsNeutral.nats r)).map _ else if y.toNat = 1 then (Levels.eventsOf (LevelsNeutral.nats r)).map _ else none) = _
      rw [ih]
      split
      · rfl
      · split <;> rfl
/-- events in turn, by a walk -/
def evTick (e : List Int) (i : Nat) : Nat := (e.getD (3 * i) 0).toNat
end LD
namespace LD
/-! a lane told by a walk over ticks in order -/
def walk (f : Nat → Nat) : Nat → List Nat → List (Nat × Nat)
  | _, [] => []
  | g, t :: l => if f t = g then walk f g l else (t, f t) :: walk f (f t) l
theorem const_between {f : Nat → Nat} {s : Nat} : ∀ {t : Nat}, s ≤ t → (∀ u, s < u → u ≤ t → f (u - 1) = f u) → f t = f s
  | 0, h, _ => by rw [show s = 0 by omega]
  | t + 1, h, hc => by
    by_cases e : s = t + 1
    · rw [e]
    · have h1 := hc (t + 1) (by omega) (Nat.le_refl _)
      rw [Nat.add_sub_cancel] at h1
      rw [← h1]
      exact const_between (by omega) fun u h2 h3 => hc u h2 (by omega)
theorem walk_spec {f : Nat → Nat} : ∀ (S : List Nat) (s : Nat), S.Pairwise (· ≤ ·) → (∀ t ∈ S, s ≤ t ∧ t < 16777216) → (∀ t, s < t → t < 16777216 → f (t - 1) ≠ f t → t ∈ S) →
    ∃ R : List Nat, walk f (f s) S = R.map (fun t => (t, f t)) ∧ R.Pairwise (· < ·) ∧ ∀ t, t ∈ R ↔ s < t ∧ t < 16777216 ∧ f (t - 1) ≠ f t
  | [], s, _, _, hc => ⟨[], rfl, .nil, fun t => ⟨fun h => by simp at h, fun h => hc t h.1 h.2.1 h.2.2⟩⟩
  | t :: S, s, hp, hr, hc => by
    obtain ⟨hp1, hp2⟩ := List.pairwise_cons.mp hp
    have ht := hr t (by simp)
    -- no change strictly between s and t
    have hb : ∀ u, s < u → u < t → f (u - 1) = f u := fun u h1 h2 => by
      by_cases e : f (u - 1) = f u
      · exact e
      · rcases List.mem_cons.mp (hc u h1 (by omega) e) with z | z
        · omega
        · have := hp1 u z
          omega
    have hrS : ∀ u ∈ S, t ≤ u ∧ u < 16777216 := fun u hu => ⟨hp1 u hu, (hr u (List.mem_cons_of_mem _ hu)).2⟩
    have hcS : ∀ u, t < u → u < 16777216 → f (u - 1) ≠ f u → u ∈ S := fun u h1 h2 h3 => by
      rcases List.mem_cons.mp (hc u (by omega) h2 h3) with z | z
      · omega
      · exact z
    have hprev : s < t → f (t - 1) = f s := fun h => const_between (by omega) fun u h1 h2 => hb u h1 (by omega)
    obtain ⟨R, e1, e2, e3⟩ := walk_spec S t hp2 hrS hcS
    rw [walk]
    by_cases c : f t = f s
    · rw [if_pos c, ← c]
      refine ⟨R, e1, e2, fun u => ?_⟩
      rw [e3]
      constructor
      · rintro ⟨h1, h2, h3⟩
        exact ⟨by omega, h2, h3⟩
      · rintro ⟨h1, h2, h3⟩
        refine ⟨?_, h2, h3⟩
        rcases Nat.lt_trichotomy u t with z | z | z
        · exact absurd (hb u h1 z) h3
        · subst z
          exact absurd (by rw [hprev h1, c]) h3
        · exact z
    · rw [if_neg c]
      have hst : s < t := by
        rcases Nat.lt_or_ge s t with z | z
        · exact z
        · rw [show t = s by omega] at c
          exact absurd rfl c
      refine ⟨t :: R, by rw [e1]; rfl, List.pairwise_cons.mpr ⟨fun u hu => ((e3 u).mp hu).1, e2⟩, fun u => ?_⟩
      rw [List.mem_cons, e3]
      constructor
      · rintro (z | ⟨h1, h2, h3⟩)
        · subst z
          exact ⟨hst, ht.2, by rw [hprev hst]; exact fun z => c z.symm⟩
        · exact ⟨by omega, h2, h3⟩
      · rintro ⟨h1, h2, h3⟩
        rcases Nat.lt_trichotomy u t with z | z | z
        · exact absurd (hb u h1 z) h3
        · exact .inl z
        · exact .inr ⟨z, h2, h3⟩
/-- the lane that says what f says is what a walk over any ticks in order finds, if they hold all its changes -/
theorem laneAt_walk {f : Nat → Nat} {T S : List Nat} (c : Covers f T) (hs : S.Pairwise (· ≤ ·)) (hr : ∀ t ∈ S, t < 16777216) (hc : ∀ t, 0 < t → t < 16777216 → f (t - 1) ≠ f t → t ∈ S) :
    Mix.laneAt f T = ⟨f 0, walk f (f 0) S⟩ := by
  obtain ⟨R, e1, e2, e3⟩ := walk_spec (f := f) S 0 hs (fun t ht => ⟨Nat.zero_le _, hr t ht⟩) hc
  rw [laneAt_covers c e2 e3, e1]
/-- points that are thinned: one whose gain is the one before is left out -/
def thin : Nat → List (Nat × Nat) → List (Nat × Nat)
  | _, [] => []
  | g, p :: l => if p.2 = g then thin g l else p :: thin p.2 l
/-- ticks rise -/
def Rises : List (Nat × Nat) → Prop
  | [] => True
  | [_] => True
  | p :: q :: l => p.1 < q.1 ∧ Rises (q :: l)
theorem walk_map (f : Nat → Nat) : ∀ (l : List (Nat × Nat)) (g : Nat), (∀ p ∈ l, f p.1 = p.2) → walk f g (l.map fun p => p.1) = thin g l
  | [], g, _ => rfl
  | p :: l, g, h => by
    have e := h p (by simp)
    rw [List.map_cons, walk, thin, e, walk_map f l g fun q hq => h q (List.mem_cons_of_mem _ hq), walk_map f l p.2 fun q hq => h q (List.mem_cons_of_mem _ hq)]
theorem thin_lane {f : Nat → Nat} {T : List Nat} {l : List (Nat × Nat)} (c : Covers f T) (hs : (l.map fun p => p.1).Pairwise (· ≤ ·)) (hr : ∀ p ∈ l, p.1 < 16777216) (hv : ∀ p ∈ l, f p.1 = p.2) (hc : ∀ t, 0 < t → t < 16777216 → f (t - 1) ≠ f t → t ∈ l.map fun p => p.1) :
    Mix.laneAt f T = ⟨f 0, thin (f 0) l⟩ := by
  rw [laneAt_walk c hs (fun t ht => by
    obtain ⟨p, hp, rfl⟩ := List.mem_map.mp ht
    exact hr p hp) hc, walk_map f l (f 0) hv]
end LD
namespace LD
/-! turns thinned by places -/
def isFew (tl : List (Nat × Nat)) (i : Nat) : Bool := decide (i = 0) || decide ((tl.getD i (0, 0)).2 ≠ (tl.getD (i - 1) (0, 0)).2)
def few (tl : List (Nat × Nat)) : List Nat := (List.range tl.length).filter (isFew tl)
theorem thin_places : ∀ (l : List (Nat × Nat)) (p : Nat × Nat),
    (((List.range l.length).filter fun i => decide (((p :: l).getD (i + 1) (0, 0)).2 ≠ ((p :: l).getD i (0, 0)).2)).map fun i => l.getD i (0, 0)) = thin p.2 l
  | [], p => rfl
  | q :: r, p => by
    have ih := thin_places r q
    rw [List.length_cons, List.range_succ_eq_map, List.filter_cons]
    have e0 : (decide (((p :: q :: r).getD (0 + 1) (0, 0)).2 ≠ ((p :: q :: r).getD 0 (0, 0)).2)) = decide (q.2 ≠ p.2) := rfl
    have e1 : ((List.map Nat.succ (List.range r.length)).filter fun i => decide (((p :: q :: r).getD (i + 1) (0, 0)).2 ≠ ((p :: q :: r).getD i (0, 0)).2)).map (fun i => (q :: r).getD i (0, 0)) = thin q.2 r := by
      rw [List.filter_map, List.map_map, ← ih]
      rfl
    rw [e0, thin]
    by_cases c : q.2 = p.2
    · rw [if_pos c, if_neg (by simp [c]), e1, c]
    · rw [if_neg c, if_pos (by simp [c]), List.map_cons, e1]
      rfl
theorem few_thin (p : Nat × Nat) (l : List (Nat × Nat)) : ((few (p :: l)).map fun i => (p :: l).getD i (0, 0)) = p :: thin p.2 l := by
  unfold few
  rw [List.length_cons, List.range_succ_eq_map, List.filter_cons, if_pos (by rfl), List.map_cons, List.filter_map, List.map_map, ← thin_places l p]
  show p :: _ = p :: _
  congr 1
theorem few_length (p : Nat × Nat) (l : List (Nat × Nat)) : (few (p :: l)).length = (thin p.2 l).length + 1 := by
  have e := congrArg List.length (few_thin p l)
  rw [List.length_map, List.length_cons] at e
  exact e
/-! ticks in order, each once, 0 the first -/
theorem strict_zero : ∀ {S : List Nat}, S.Pairwise (· < ·) → 0 ∈ S → ∃ S', S = 0 :: S' ∧ (∀ t ∈ S', 0 < t)
  | [], _, h => by simp at h
  | t :: S', hs, h => by
    obtain ⟨h1, h2⟩ := List.pairwise_cons.mp hs
    rcases List.mem_cons.mp h with e | m
    · subst e
      exact ⟨S', rfl, h1⟩
    · exact absurd (h1 0 m) (Nat.not_lt_zero _)
/-- a function's turns at ticks that hold all its changes tell its lane -/
theorem turns_lane {f : Nat → Nat} {T S : List Nat} (c : Covers f T) (hs : S.Pairwise (· < ·)) (hz : 0 ∈ S) (hr : ∀ t ∈ S, t < 16777216) (hc : ∀ t, 0 < t → t < 16777216 → f (t - 1) ≠ f t → t ∈ S) :
    ∃ S', S = 0 :: S' ∧ Mix.laneAt f T = ⟨f 0, thin (f 0) (S'.map fun t => (t, f t))⟩ := by
  obtain ⟨S', rfl, h0⟩ := strict_zero hs hz
  refine ⟨S', rfl, ?_⟩
  have em : ((S'.map fun t => (t, f t)).map fun p => p.1) = S' := by
    rw [List.map_map]
    exact List.map_id _
  refine thin_lane c ?_ ?_ ?_ ?_
  · rw [em]
    exact ((List.pairwise_cons.mp hs).2).imp fun h => Nat.le_of_lt h
  · intro p hp
    obtain ⟨t, ht, rfl⟩ := List.mem_map.mp hp
    exact hr t (List.mem_cons_of_mem _ ht)
  · intro p hp
    obtain ⟨t, ht, rfl⟩ := List.mem_map.mp hp
    rfl
  · intro t h1 h2 h3
    rw [em]
    rcases List.mem_cons.mp (hc t h1 h2 h3) with e | m
    · omega
    · exact m
/-- ticks that are asked: those of some whole numbers that are ticks, in order, each once -/
def TicksOf (ns : List Int) (S : List Nat) : Prop := S.Pairwise (· < ·) ∧ ∀ t : Nat, t ∈ S ↔ (t : Int) ∈ ns ∧ t < 16777216
def ticks0 (l : Mix.Lane) : List Int := 0 :: l.ticks.map fun (t : Nat) => (t : Int)
theorem mem_ticks0 {l : Mix.Lane} {t : Nat} (h : t ∈ l.ticks) : (t : Int) ∈ ticks0 l := List.mem_cons_of_mem _ (List.mem_map.mpr ⟨t, h, rfl⟩)
/-- ticks of events and of the way back behind them -/
def evTicks (e : List Int) (back k : Nat) : List Int := (List.range k).flatMap fun i => (List.range (back + 1)).map fun (j : Nat) => e.getD (3 * i) 0 + (j : Int)
theorem pass_change (l : Mix.Lane) (p : Mix.Pass) (es : List Mix.Event) (t : Nat) (h0 : 0 < t) (h : l.says p es (t - 1) ≠ l.says p es t) :
    t ∈ l.ticks ∨ t = p.a ∨ t = p.b ∨ ∃ e ∈ es, ∃ j, j ≤ p.back ∧ t = e.1 + j := by
  by_cases e1 : t = p.a
  · exact .inr (.inl e1)
  by_cases e2 : t = p.b
  · exact .inr (.inr (.inl e2))
  unfold Mix.Lane.says at h
  by_cases c : p.a ≤ t ∧ t < p.b
  · rw [if_pos (show p.a ≤ t - 1 ∧ t - 1 < p.b by omega), if_pos c] at h
    by_cases ev : ∃ e ∈ es, e.1 = t
    · obtain ⟨e, m, z⟩ := ev
      exact .inr (.inr (.inr ⟨e, m, 0, Nat.zero_le _, by omega⟩))
    · by_cases ea : l.at_ (t - 1) = l.at_ t
      · have eh : Mix.hand p es (t - 1) = Mix.hand p es t := hand_same p es fun e m => by
          have : e.1 ≠ t := fun z => ev ⟨e, m, z⟩
          omega
        unfold Mix.heard at h
        rw [ea, eh] at h
        simp only [] at h
        split at h
        · exact absurd rfl h
        · split at h
          · exact absurd rfl h
          · split at h
            · rename_i r hr
              obtain ⟨e, m, z⟩ := hand_since p t es hr
              by_cases c1 : t - 1 - r < p.back
              · by_cases c2 : t < r
                · rw [show t - 1 - r = t - r by omega] at h
                  exact absurd rfl h
                · exact .inr (.inr (.inr ⟨e, m, t - r, by omega, by omega⟩))
              · rw [if_neg c1, if_neg (show ¬ t - r < p.back by omega)] at h
                exact absurd rfl h
            · exact absurd rfl h
        · exact absurd rfl h
        · exact absurd rfl h
        · exact absurd rfl h
      · exact .inl (at_change ea (by omega))
  · rw [if_neg (show ¬ (p.a ≤ t - 1 ∧ t - 1 < p.b) by omega), if_neg c] at h
    exact .inl (at_change h (by omega))
def IsNats (l : List Int) : Prop := ∀ z ∈ l, 0 ≤ z
theorem nat_at {l : List Int} (h : IsNats l) (p : Nat) : 0 ≤ l.getD p 0 := by
  by_cases c : p < l.length
  · exact h _ (by rw [List.getD_eq_getElem?_getD, List.getElem?_eq_getElem c]; exact List.getElem_mem c)
  · rw [List.getD_eq_getElem?_getD, List.getElem?_eq_none (by omega)]
    decide
theorem pass_lane {l : Mix.Lane} {p : Mix.Pass} {e : List Int} {k : Nat} (he : IsNats e) {S : List Nat} (h : TicksOf (([(p.a : Int), (p.b : Int)] ++ ticks0 l) ++ evTicks e p.back k) S) :
    ∃ S', S = 0 :: S' ∧ l.pass p (evsAt e k) = ⟨l.says p (evsAt e k) 0, thin (l.says p (evsAt e k) 0) (S'.map fun t => (t, l.says p (evsAt e k) t))⟩ := by
  refine turns_lane (covers_pass l p (evsAt e k)) h.1 ((h.2 0).mpr ⟨?_, by decide⟩) (fun t ht => ((h.2 t).mp ht).2) fun t h0 h1 hne => (h.2 t).mpr ⟨?_, h1⟩
  · exact List.mem_append_left _ (List.mem_append_right _ (List.mem_cons_self ..))
  · rcases pass_change l p (evsAt e k) t h0 hne with m | m | m | ⟨ev, hev, j, hj, m⟩
    · exact List.mem_append_left _ (List.mem_append_right _ (mem_ticks0 m))
    · subst m
      exact List.mem_append_left _ (List.mem_append_left _ (by simp))
    · subst m
      exact List.mem_append_left _ (List.mem_append_left _ (by simp))
    · obtain ⟨i, hi, rfl⟩ := List.mem_map.mp hev
      have q := nat_at he (3 * i)
      have m : t = (e.getD (3 * i) 0).toNat + j := m
      exact List.mem_append_right _ (List.mem_flatMap.mpr ⟨i, hi, List.mem_map.mpr ⟨j, List.mem_range.mpr (by omega), by omega⟩⟩)
/-! bytes, the lowest first -/
def lows (n k : Nat) : List Int := (List.range k).map fun i => ((n / 256 ^ i % 256 : Nat) : Int)
theorem lows_succ (n k : Nat) : lows n (k + 1) = lows n k ++ [((n / 256 ^ k % 256 : Nat) : Int)] := by
  unfold lows
  rw [List.range_succ, List.map_append]
  rfl
theorem lows_length (n k : Nat) : (lows n k).length = k := by rw [lows, List.length_map, List.length_range]
theorem lows_rest (n k : Nat) : n / 256 ^ k / 256 = n / 256 ^ (k + 1) := by rw [Nat.div_div_eq_div_mul, Nat.pow_succ]
theorem lows_two (n : Nat) : lows n 2 = le2 n := by
  show [((n / 256 ^ 0 % 256 : Nat) : Int), ((n / 256 ^ 1 % 256 : Nat) : Int)] = _
  rw [show n / 256 ^ 0 = n from Nat.div_one n]
  rfl
theorem lows_four (n : Nat) : lows n 4 = le4 n := by
  show [((n / 256 ^ 0 % 256 : Nat) : Int), ((n / 256 ^ 1 % 256 : Nat) : Int), ((n / 256 ^ 2 % 256 : Nat) : Int), ((n / 256 ^ 3 % 256 : Nat) : Int)] = _
  rw [show n / 256 ^ 0 = n from Nat.div_one n]
  rfl
/-- a lane's bytes as far as so many of its points -/
def laneUp (first many : Nat) (pts : List (Nat × Nat)) : List Int := (le2 first ++ le2 many) ++ pts.flatMap fun p => le4 p.1 ++ le2 p.2
theorem laneUp_bytes (first : Nat) (pts : List (Nat × Nat)) : laneUp first pts.length pts = laneBytes first pts := List.append_assoc ..
theorem laneUp_snoc (first many : Nat) (pts : List (Nat × Nat)) (p : Nat × Nat) : laneUp first many (pts ++ [p]) = (laneUp first many pts ++ le4 p.1) ++ le2 p.2 := by
  unfold laneUp
  rw [List.flatMap_append, List.flatMap_cons, List.flatMap_nil, List.append_nil, List.append_assoc, List.append_assoc, List.append_assoc, List.append_assoc]
theorem laneUp_length (first many : Nat) : ∀ pts : List (Nat × Nat), (laneUp first many pts).length = 4 + 6 * pts.length := by
  have q : ∀ pts : List (Nat × Nat), (pts.flatMap fun p => le4 p.1 ++ le2 p.2).length = 6 * pts.length := by
    intro pts
    induction pts with
    | nil => rfl
    | cons p r ih =>
      rw [List.flatMap_cons, List.length_append, ih, List.length_cons]
      show 6 + 6 * r.length = _
      omega
  intro pts
  unfold laneUp
  rw [List.length_append, q]
  rfl
theorem laneTold_few {g : Nat} {l : List (Nat × Nat)} (h : (thin g l).length ≤ 64) : laneTold ⟨g, thin g l⟩ = ((laneUp g (thin g l).length (thin g l)).length : Int) :: ((laneUp g (thin g l).length (thin g l)).length : Int) :: (laneUp g (thin g l).length (thin g l) ++ [0]) := by
  unfold laneTold
  rw [if_neg (by show ¬ 64 < (thin g l).length; omega), laneUp_bytes]
theorem laneTold_many {g : Nat} {l : List (Nat × Nat)} (h : 64 < (thin g l).length) : laneTold ⟨g, thin g l⟩ = [-3, 0, 0] := by
  unfold laneTold
  rw [if_pos (show 64 < (thin g l).length from h)]
end LD
namespace LD
/-! events, one after another -/
def evWhat (e : List Int) (i : Nat) : Nat := (e.getD (3 * i + 1) 0).toNat
def evGain (e : List Int) (i : Nat) : Nat := (e.getD (3 * i + 2) 0).toNat
theorem evsAt_snoc (e : List Int) (k : Nat) : evsAt e (k + 1) = evsAt e k ++ [evAt e (3 * k)] := by
  unfold evsAt
  rw [List.range_succ, List.map_append]
  rfl
theorem whatsOk_snoc (e : List Int) (k : Nat) : whatsOk e (k + 1) = (whatsOk e k && decide (evWhat e k ≤ 1)) := by
  unfold whatsOk
  rw [List.range_succ, List.all_append, List.all_cons, List.all_nil, Bool.and_true]
  rfl
def lastTick (a : Nat) (e : List Int) : Nat → Nat
  | 0 => a
  | k + 1 => evTick e k
theorem inTurn_snoc (b : Nat) (x : Mix.Event) : ∀ (l : List Mix.Event) (a : Nat), Mix.inTurn a b (l ++ [x]) = (Mix.inTurn a b l && (decide ((l.getLast?.map fun (q : Mix.Event) => q.1).getD a ≤ x.1) && decide (x.1 < b)))
  | [], a => by
    show (decide (a ≤ x.1) && (decide (x.1 < b) && true)) = (true && (decide (a ≤ x.1) && decide (x.1 < b)))
    rw [Bool.and_true, Bool.true_and]
  | y :: l, a => by
    have ih := inTurn_snoc b x l y.1
    show (decide (a ≤ y.1) && (decide (y.1 < b) && Mix.inTurn y.1 b (l ++ [x]))) = ((decide (a ≤ y.1) && (decide (y.1 < b) && Mix.inTurn y.1 b l)) && _)
    rw [ih, Bool.and_assoc, Bool.and_assoc]
    cases l with
    | nil => rfl
    | cons z r => rw [List.getLast?_cons_cons]; rfl
theorem last_evs (a : Nat) (e : List Int) (k : Nat) : (((evsAt e k).getLast?.map fun (q : Mix.Event) => q.1).getD a) = lastTick a e k := by
  cases k with
  | zero => rfl
  | succ k =>
    rw [evsAt_snoc, List.getLast?_append]
    rfl
/-- the first so many numbers by threes are events of a pass -/
def okUp (a b : Nat) (e : List Int) (k : Nat) : Bool := whatsOk e k && Mix.inTurn a b (evsAt e k)
theorem okUp_succ (a b : Nat) (e : List Int) (k : Nat) : okUp a b e (k + 1) = (okUp a b e k && (decide (lastTick a e k ≤ evTick e k) && (decide (evTick e k < b) && decide (evWhat e k ≤ 1)))) := by
  unfold okUp
  rw [whatsOk_snoc, evsAt_snoc, inTurn_snoc, last_evs]
  show (_ && (_ && (decide (lastTick a e k ≤ evTick e k) && decide (evTick e k < b)))) = _
  cases whatsOk e k <;> cases decide (evWhat e k ≤ 1) <;> cases Mix.inTurn a b (evsAt e k) <;> cases decide (lastTick a e k ≤ evTick e k) <;> cases decide (evTick e k < b) <;> rfl
theorem okUp_false {a b : Nat} {e : List Int} {k : Nat} (h : okUp a b e k = false) : ∀ {n : Nat}, k ≤ n → okUp a b e n = false
  | 0, hn => by rw [show k = 0 by omega] at h; exact h
  | n + 1, hn => by
    by_cases c : k = n + 1
    · rw [← c]; exact h
    · rw [okUp_succ, okUp_false h (show k ≤ n by omega), Bool.false_and]
def evOk (a b : Nat) (e : List Int) : Bool := decide (e.length % 3 = 0) && okUp a b e (e.length / 3)
def fineI (a b mode back : Int) (e : List Int) : Bool := decide (a ≤ b) && (decide (b ≤ 16777216) && (decide (mode ≤ 4) && (decide (back ≤ 16) && evOk a.toNat b.toNat e)))
theorem pass_case {a b mode back gain : Int} {e : List Int} (ha : 0 ≤ a) (hb : 0 ≤ b) (hm : 0 ≤ mode) (hk : 0 ≤ back) {α : Type} (F : List Mix.Event → α) (x : α) :
    (match Levels.eventsOf (LevelsNeutral.nats e) with
      | none => x
      | some es => if (passOf a b mode back gain).fine es = true then F es else x) = if fineI a b mode back e = true then F (evsAt e (e.length / 3)) else x := by
  unfold fineI evOk
  by_cases h3 : e.length % 3 = 0
  · rw [eventsOf_eq (e.length / 3) e (by omega), decide_eq_true h3, Bool.true_and]
    unfold okUp
    cases whatsOk e (e.length / 3) with
    | false =>
      simp only [Bool.false_and, Bool.and_false]
      rfl
    | true =>
      show (if (passOf a b mode back gain).fine (evsAt e (e.length / 3)) = true then _ else _) = _
      rw [Bool.true_and]
      unfold Mix.Pass.fine passOf
      rw [show decide (a.toNat ≤ b.toNat) = decide (a ≤ b) from decide_eq_decide.mpr (by omega), show decide (b.toNat ≤ Mix.TICKS) = decide (b ≤ 16777216) from decide_eq_decide.mpr (by show b.toNat ≤ 16777216 ↔ _; omega),
        show decide (mode.toNat < 5) = decide (mode ≤ 4) from decide_eq_decide.mpr (by omega), show decide (back.toNat ≤ Mix.BACK) = decide (back ≤ 16) from decide_eq_decide.mpr (by show back.toNat ≤ 16 ↔ _; omega)]
  · rw [eventsOf_odd e.length e (Nat.le_refl _) h3, decide_eq_false h3]
    simp only [Bool.false_and, Bool.and_false]
    rfl
theorem heard_eq2 {a b mode back gain t : Int} {l e : List Int} (hb : IsBytes l) (ha : 0 ≤ a) (hb0 : 0 ≤ b) (hm : 0 ≤ mode) (hk : 0 ≤ back) : PyWqaecd.heard a b mode back gain t l e =
    if 192 < e.length then [-2, 0, 0] else if 1024 < l.length then [-2, 0, 0] else match laneFault l with
      | some z => [-6, 0, 2, (z.1 : Int), (z.2 : Int)]
      | none => if fineI a b mode back e = true then (if (decide (a.toNat ≤ t.toNat) && decide (t.toNat < b.toNat)) = true then [(Mix.heard (passOf a b mode back gain) (evsAt e (e.length / 3)) t.toNat ((laneOf l).at_ t.toNat) : Int), 0, 0] else [-1, 0, 0]) else [-1, 0, 0] := by
  rw [heard_eq hb]
  by_cases c : 192 < e.length
  · rw [if_pos c, if_pos c]
  rw [if_neg c, if_neg c]
  by_cases c : 1024 < l.length
  · rw [if_pos c, if_pos c]
  rw [if_neg c, if_neg c]
  cases laneFault l with
  | some z => rfl
  | none => exact pass_case (gain := gain) ha hb0 hm hk (fun es => if (decide (a.toNat ≤ t.toNat) && decide (t.toNat < b.toNat)) = true then [(Mix.heard (passOf a b mode back gain) es t.toNat ((laneOf l).at_ t.toNat) : Int), 0, 0] else [-1, 0, 0]) [-1, 0, 0]
theorem pass_eq2 {a b mode back gain : Int} {l e : List Int} (hb : IsBytes l) (ha : 0 ≤ a) (hb0 : 0 ≤ b) (hm : 0 ≤ mode) (hk : 0 ≤ back) : PyWqaecd.pass_of a b mode back gain l e =
    if 192 < e.length then [-2, 0, 0] else if 1024 < l.length then [-2, 0, 0] else match laneFault l with
      | some z => [-6, 0, 2, (z.1 : Int), (z.2 : Int)]
      | none => if fineI a b mode back e = true then laneTold ((laneOf l).pass (passOf a b mode back gain) (evsAt e (e.length / 3))) else [-1, 0, 0] := by
  rw [pass_eq hb]
  by_cases c : 192 < e.length
  · rw [if_pos c, if_pos c]
  rw [if_neg c, if_neg c]
  by_cases c : 1024 < l.length
  · rw [if_pos c, if_pos c]
  rw [if_neg c, if_neg c]
  cases laneFault l with
  | some z => rfl
  | none => exact pass_case (gain := gain) ha hb0 hm hk (fun es => laneTold ((laneOf l).pass (passOf a b mode back gain) es)) [-1, 0, 0]
theorem evTicks_succ (e : List Int) (back i : Nat) : evTicks e back (i + 1) = evTicks e back i ++ (List.range (back + 1)).map fun (j : Nat) => e.getD (3 * i) 0 + (j : Int) := by
  unfold evTicks
  rw [show List.range (i + 1) = List.range i ++ [i] from List.range_succ, List.flatMap_append, List.flatMap_cons, List.flatMap_nil, List.append_nil]
theorem evTicks_len (e : List Int) (back : Nat) : ∀ i, (evTicks e back i).length = i * (back + 1)
  | 0 => by rw [Nat.zero_mul]; rfl
  | i + 1 => by rw [evTicks_succ, List.length_append, evTicks_len e back i, List.length_map, List.length_range, Nat.succ_mul]
theorem evTicks_few {e : List Int} {back i : Nat} (hi : i ≤ 64) (hb : back ≤ 16) : (evTicks e back i).length ≤ 1088 := by
  rw [evTicks_len]
  exact Nat.le_trans (Nat.mul_le_mul hi (show back + 1 ≤ 17 by omega)) (by decide)
/-! the fader, event by event -/
structure Fd where
  level : Nat
  was : Bool
  is : Bool
  go : Option Nat
def Fd.take (x : Fd) (tick what level : Nat) : Fd := if what = 1 then ⟨min level 65535, true, true, x.go⟩ else if x.is = true then ⟨x.level, x.was, false, some tick⟩ else x
def fdAt (t g : Nat) (e : List Int) : Nat → Fd
  | 0 => ⟨min g 65535, false, false, none⟩
  | k + 1 => if evTick e k ≤ t then (fdAt t g e k).take (evTick e k) (evWhat e k) (evGain e k) else fdAt t g e k
def FdIs (t : Nat) (x : Fd) (h : Mix.Hand) : Prop := x.level = h.gain ∧ x.was = h.ever ∧ x.is = h.holds ∧ (h.holds = false → x.go = h.since) ∧ x.level ≤ 65535 ∧ ∀ r, x.go = some r → r ≤ t
theorem fdAt_is {t : Nat} {p : Mix.Pass} {e : List Int} : ∀ {k : Nat}, whatsOk e k = true → FdIs t (fdAt t p.gain e k) (Mix.hand p (evsAt e k) t)
  | 0, _ => ⟨rfl, rfl, rfl, fun _ => rfl, Nat.min_le_right _ _, fun r h => by cases h⟩
  | k + 1, h => by
    rw [whatsOk_snoc, Bool.and_eq_true, decide_eq_true_eq] at h
    obtain ⟨i1, i2, i3, i4, i5, i6⟩ := fdAt_is (t := t) (p := p) h.1
    have eh : Mix.hand p (evsAt e (k + 1)) t = if evTick e k ≤ t then (Mix.hand p (evsAt e k) t).after (evAt e (3 * k)) else Mix.hand p (evsAt e k) t := by
      unfold Mix.hand
      rw [evsAt_snoc, List.foldl_append]
      rfl
    rw [eh, fdAt]
    by_cases c : evTick e k ≤ t
    · rw [if_pos c, if_pos c]
      unfold Fd.take Mix.Hand.after
      by_cases c1 : evWhat e k = 1
      · have e2 : (evAt e (3 * k)).2 = .touched (evGain e k) := by
          show (if evWhat e k = 0 then _ else _) = _
          rw [if_neg (by omega)]
          rfl
        rw [if_pos c1, e2]
        refine ⟨rfl, rfl, rfl, fun z => ?_, Nat.min_le_right _ _, i6⟩
        have z : true = false := z
        cases z
      · have e2 : (evAt e (3 * k)).2 = .letGo := by
          show (if evWhat e k = 0 then _ else _) = _
          rw [if_pos (by omega)]
        rw [if_neg c1, e2]
        show FdIs t (if (fdAt t p.gain e k).is = true then _ else _) (if (Mix.hand p (evsAt e k) t).holds = true then _ else _)
        by_cases c2 : (Mix.hand p (evsAt e k) t).holds = true
        · rw [if_pos c2, if_pos (i3.trans c2)]
          refine ⟨i1, i2, rfl, fun _ => rfl, i5, fun r hr => ?_⟩
          have hr : some (evTick e k) = some r := hr
          cases hr
          exact c
        · rw [if_neg c2, if_neg (fun z => c2 (i3.symm.trans z))]
          exact ⟨i1, i2, i3, i4, i5, i6⟩
    · rw [if_neg c, if_neg c]
      exact ⟨i1, i2, i3, i4, i5, i6⟩
theorem rounded_pos {a : Int} {b : Nat} (h : 0 ≤ a) (hb : 0 < b) : 0 ≤ Mix.rounded a b := by
  have q : 0 ≤ a / (b : Int) := Int.ediv_nonneg h (by omega)
  unfold Mix.rounded
  split <;> omega
/-- between two gains, by whole numbers -/
def betI (u v i : Int) : Int := Mix.rounded (u * (64 - i) + v * i) 64
theorem between_int {u v i : Nat} (hu : u ≤ 65535) (hv : v ≤ 65535) (hi : i ≤ 64) : (Mix.between u v i : Int) = betI u v i := by
  have e1 : Mix.gainOf u = u := Nat.min_eq_left hu
  have e2 : Mix.gainOf v = v := Nat.min_eq_left hv
  unfold Mix.between betI
  rw [e1, e2]
  refine Int.toNat_of_nonneg (rounded_pos ?_ (by decide))
  have h1 : (0 : Int) ≤ (u : Int) * (64 - (i : Int)) := Int.mul_nonneg (by omega) (by omega)
  have h2 : (0 : Int) ≤ (v : Int) * (i : Int) := Int.mul_nonneg (by omega) (by omega)
  omega
def touchI (back t old : Nat) (x : Fd) : Int := if x.is = true then (x.level : Int) else match x.go with
  | none => (old : Int)
  | some r => if back ≤ t - r then (old : Int) else betI x.level old ((64 * (t - r + 1) / (back + 1) : Nat) : Int)
def heardI (mode back t old : Nat) (x : Fd) : Int := if mode = 1 then touchI back t old x else if mode = 3 ∨ (mode = 2 ∧ x.was = true) then (x.level : Int) else if mode = 4 then min (Mix.rounded ((old : Int) * (x.level : Int)) 16384) 65535 else (old : Int)
theorem heard_int {p : Mix.Pass} {es : List Mix.Event} {t old : Nat} {x : Fd} (hx : FdIs t x (Mix.hand p es t)) (hm : p.mode ≤ 4) (ho : old ≤ 65535) : (Mix.heard p es t old : Int) = heardI p.mode p.back t old x := by
  obtain ⟨i1, i2, i3, i4, i5, i6⟩ := hx
  unfold Mix.heard
  generalize Mix.hand p es t = h at *
  rcases p with ⟨a, b, mode, back, gain⟩
  have hm : mode ≤ 4 := hm
  match mode, hm with
  | 0, _ => rfl
  | 1, _ =>
    show ((if h.holds = true then h.gain else _ : Nat) : Int) = touchI back t old x
    unfold touchI
    by_cases c : h.holds = true
    · rw [if_pos c, if_pos (i3.trans c), i1]
    · rw [if_neg c, if_neg (fun z => c (i3.symm.trans z)), i4 (by simpa using c)]
      cases e : h.since with
      | none => rfl
      | some r =>
        show ((if t - r < back then _ else _ : Nat) : Int) = if back ≤ t - r then _ else _
        by_cases c2 : t - r < back
        · rw [if_pos c2, if_neg (by omega), between_int (by omega) ho, i1]
          · have q : 64 * (t - r + 1) / (back + 1) ≤ 64 * (back + 1) / (back + 1) := Nat.div_le_div_right (by omega)
            rw [Nat.mul_div_cancel _ (by omega)] at q
            exact q
        · rw [if_neg c2, if_pos (by omega)]
  | 2, _ =>
    show ((if h.ever = true then h.gain else old : Nat) : Int) = heardI 2 back t old x
    unfold heardI
    rw [if_neg (show ¬ 2 = 1 by decide)]
    by_cases c : h.ever = true
    · rw [if_pos c, if_pos (.inr ⟨rfl, i2.trans c⟩), i1]
    · rw [if_neg c, if_neg (by rintro (z | z); (· omega); exact c (i2.symm.trans z.2)), if_neg (show ¬ 2 = 4 by decide)]
  | 3, _ =>
    show (h.gain : Int) = heardI 3 back t old x
    unfold heardI
    rw [if_neg (show ¬ 3 = 1 by decide), if_pos (.inl rfl), i1]
  | 4, _ =>
    show ((min 65535 (Mix.rounded ((old : Int) * (h.gain : Int)) 16384).toNat : Nat) : Int) = heardI 4 back t old x
    unfold heardI
    rw [if_neg (show ¬ 4 = 1 by decide), if_neg (by rintro (z | z) <;> omega), if_pos rfl, i1]
    have q := rounded_pos (a := (old : Int) * (h.gain : Int)) (b := 16384) (Int.mul_nonneg (by omega) (by omega)) (by decide)
    omega
/-- gains of a lane -/
theorem lastAt_le {t : Nat} : ∀ {s g0 : Nat} {pts : List (Nat × Nat)} {g : Nat}, Fol s g0 pts → g ≤ 65535 → Mix.lastAt t g pts ≤ 65535
  | _, _, [], g, _, hg => hg
  | _, _, (u, v) :: l, g, .cons h1 h2 h3 h4 h5, hg => by
    unfold Mix.lastAt
    split
    · exact lastAt_le h5 (by omega)
    · exact lastAt_le h5 hg
theorem lane_gain_le {l : List Int} (hb : IsBytes l) (h : laneFault l = none) (t : Nat) : (laneOf l).at_ t ≤ 65535 := by
  have q := b2_lt hb 0
  exact lastAt_le (lane_fol hb h) (by show b2 l 0 ≤ 65535; omega)
end LD
namespace LD
open PySem
/-! a set's table: its places rise, and who made it stays told -/
theorem below_go {l : List Nat} (hl : l.Pairwise (· < ·)) (j : Nat) : ∀ (fuel lo hi : Nat), hi - lo ≤ fuel → lo ≤ hi → hi ≤ l.length → (∀ i v, i < lo → l[i]? = some v → v < j) → (∀ i v, hi ≤ i → l[i]? = some v → j ≤ v) →
    ∃ r, SetTable.below.go l.toArray j fuel lo hi = r ∧ r ≤ l.length ∧ (∀ i v, i < r → l[i]? = some v → v < j) ∧ (∀ i v, r ≤ i → l[i]? = some v → j ≤ v)
  | 0, lo, hi, hf, h1, h2, h3, h4 => ⟨lo, rfl, by omega, h3, fun i v hi' e => h4 i v (by omega) e⟩
  | fuel + 1, lo, hi, hf, h1, h2, h3, h4 => by
    unfold SetTable.below.go
    by_cases c : lo < hi
    · rw [if_pos c]
      have hm : (lo + hi) / 2 < l.length := by omega
      have em : l.toArray.getD ((lo + hi) / 2) j = l[(lo + hi) / 2] := by
        rw [Array.getD_eq_getD_getElem?, List.getElem?_toArray, List.getElem?_eq_getElem hm]
        rfl
      have hlt : ∀ a b : Nat, a < b → ∀ v u, l[a]? = some v → l[b]? = some u → v < u := by
        intro a b hab v u ha hb
        obtain ⟨ha1, ha2⟩ := List.getElem?_eq_some_iff.mp ha
        obtain ⟨hb1, hb2⟩ := List.getElem?_eq_some_iff.mp hb
        rw [← ha2, ← hb2]
        exact List.pairwise_iff_getElem.mp hl a b ha1 hb1 hab
      have e0 : l[(lo + hi) / 2]? = some l[(lo + hi) / 2] := List.getElem?_eq_getElem hm
      show ∃ r, (if l.toArray.getD ((lo + hi) / 2) j < j then _ else _) = r ∧ _
      rw [em]
      by_cases c2 : l[(lo + hi) / 2] < j
      · rw [if_pos c2]
        refine below_go hl j fuel _ hi (by omega) (by omega) h2 (fun i v hi' e => ?_) h4
        rcases Nat.lt_or_ge i ((lo + hi) / 2) with z | z
        · exact Nat.lt_trans (hlt _ _ z _ _ e e0) c2
        · have z2 : i = (lo + hi) / 2 := by omega
          subst z2
          rw [e0] at e
          cases e
          exact c2
      · rw [if_neg c2]
        refine below_go hl j fuel lo _ (by omega) (by omega) (by omega) h3 (fun i v hi' e => ?_)
        rcases Nat.lt_or_ge ((lo + hi) / 2) i with z | z
        · have := hlt _ _ z _ _ e0 e
          omega
        · have z2 : i = (lo + hi) / 2 := by omega
          subst z2
          rw [e0] at e
          cases e
          omega
    · rw [if_neg c]
      exact ⟨lo, rfl, by omega, h3, fun i v hi' e => h4 i v (by omega) e⟩
theorem below_is {xs : Array Nat} (hl : xs.toList.Pairwise (· < ·)) (j : Nat) : ∃ r, SetTable.below xs j = r ∧ r ≤ xs.size ∧ (∀ i v, i < r → xs[i]? = some v → v < j) ∧ (∀ i v, r ≤ i → xs[i]? = some v → j ≤ v) := by
  obtain ⟨r, e, h1, h2, h3⟩ := below_go hl j xs.toList.length 0 xs.toList.length (by omega) (by omega) (Nat.le_refl _) (fun i v hi _ => by omega) (fun i v hi e => by
    rw [List.getElem?_eq_none hi] at e
    cases e)
  refine ⟨r, ?_, by simpa using h1, fun i v hi hv => h2 i v hi (by rw [Array.getElem?_toList]; exact hv), fun i v hi hv => h3 i v hi (by rw [Array.getElem?_toList]; exact hv)⟩
  rw [← e]
  unfold SetTable.below
  simp only [Array.toArray_toList, Array.length_toList]
/-- putting in a place that isn't there keeps the rising -/
theorem insert_rises {xs : Array Nat} {j : Nat} (hl : xs.toList.Pairwise (· < ·)) (hj : xs[SetTable.below xs j]? ≠ some j) : (SetTable.insertAt xs (SetTable.below xs j) j).toList.Pairwise (· < ·) := by
  obtain ⟨r, e, h1, h2, h3⟩ := below_is hl j
  rw [e] at hj ⊢
  have et : (SetTable.insertAt xs r j).toList = xs.toList.take r ++ j :: xs.toList.drop r := by
    unfold SetTable.insertAt
    simp [List.extract_eq_take_drop, List.take_of_length_le]
  rw [et, List.pairwise_append]
  have hd : ∀ b ∈ xs.toList.drop r, j < b := by
    intro b hb
    obtain ⟨i, hi, e2⟩ := List.getElem_of_mem hb
    rw [List.getElem_drop] at e2
    have hlen : r + i < xs.toList.length := by rw [List.length_drop] at hi; omega
    have e3 : xs[r + i]? = some b := by rw [← Array.getElem?_toList, List.getElem?_eq_getElem hlen, e2]
    have h4 := h3 (r + i) b (by omega) e3
    rcases Nat.lt_or_ge j b with z | z
    · exact z
    · have z2 : b = j := by omega
      subst z2
      exfalso
      cases i with
      | zero => exact hj e3
      | succ i =>
        have hr : r < xs.toList.length := by omega
        have e4 : xs[r]? = some xs.toList[r] := by rw [← Array.getElem?_toList, List.getElem?_eq_getElem hr]
        have h5 := h3 r _ (Nat.le_refl _) e4
        have h6 := List.pairwise_iff_getElem.mp hl r (r + (i + 1)) hr hlen (by omega)
        omega
  have ht : ∀ a ∈ xs.toList.take r, a < j := by
    intro a ha
    obtain ⟨i, hi, e2⟩ := List.getElem_of_mem ha
    rw [List.getElem_take] at e2
    rw [List.length_take] at hi
    exact h2 i a (by omega) (by rw [← Array.getElem?_toList, List.getElem?_eq_getElem (by omega), e2])
  refine ⟨hl.sublist (List.take_sublist _ _), List.pairwise_cons.mpr ⟨hd, hl.sublist (List.drop_sublist _ _)⟩, fun a ha b hb => ?_⟩
  rcases List.mem_cons.mp hb with z | z
  · rw [z]; exact ht a ha
  · exact Nat.lt_trans (ht a ha) (hd b z)
def NotLive (t : SetTable) (j : Nat) : Prop := t.place[SetTable.below t.place j]? ≠ some j
theorem notLive_of {t : SetTable} {j : Nat} (h : ∀ i, t.slot j ≠ .live i) : NotLive t j := fun e => h (SetTable.below t.place j) (by
  unfold SetTable.slot
  simp only [e, BEq.rfl, if_true])
theorem probe_go {t : SetTable} {h : Int} : ∀ (fuel : Nat) (p : SetTable.Probe) (j : Nat) (d : Option Nat), (∀ q, p.dummy = some q → NotLive t q) → SetTable.probe.go t (fun _ => h + 1) h fuel p = some (.empty j d) → NotLive t (d.getD j)
  | 0, p, j, d, _, e => by
    unfold SetTable.probe.go at e
    cases e
  | fuel + 1, p, j, d, hp, e => by
    have adv : ∀ p : SetTable.Probe, (t.advance p).dummy = p.dummy := by
      intro p
      unfold SetTable.advance
      split <;> rfl
    unfold SetTable.probe.go at e
    cases hs : t.slot p.j with
    | empty =>
      rw [hs] at e
      cases e
      cases hd : p.dummy with
      | none =>
        refine notLive_of fun i z => ?_
        have z : t.slot p.j = .live i := z
        rw [hs] at z
        cases z
      | some q => exact hp q hd
    | dummy =>
      rw [hs] at e
      refine probe_go fuel _ j d (fun q hq => ?_) e
      rw [adv] at hq
      cases hq
      refine notLive_of fun i z => ?_
      rw [hs] at z
      cases z
    | live i =>
      rw [hs] at e
      have hb : ((h + 1 : Int) == h) = false := by
        rw [beq_eq_false_iff_ne]
        omega
      simp only [hb, Bool.false_eq_true, if_false] at e
      exact probe_go fuel _ j d (fun q hq => hp q (by rw [← adv p]; exact hq)) e
theorem freeSlot_notLive {t : SetTable} {h : Int} {j : Nat} {b : Bool} (e : t.freeSlot h = some (j, b)) : NotLive t j := by
  unfold SetTable.freeSlot at e
  split at e
  · rename_i j' d hp
    cases e
    exact probe_go _ _ _ _ (fun q hq => by cases hq) hp
  · cases e
def Neat (b : Bool) (t : SetTable) : Prop := t.led = b ∧ t.place.toList.Pairwise (· < ·)
theorem neat_fresh (b : Bool) : Neat b (.fresh 0 0 b) := ⟨rfl, .nil⟩
theorem neat_standIn {b : Bool} {t : SetTable} (h : Neat b t) (n : Nat) : Neat b (t.standIn n) := by
  refine ⟨h.1, ?_⟩
  show (Array.range n).toList.Pairwise (· < ·)
  rw [Array.toList_range]
  exact List.pairwise_lt_range
theorem neat_put {b : Bool} {t : SetTable} {j : Nat} (h : Neat b t) (hj : NotLive t j) : Neat b (t.put j).1 := ⟨h.1, insert_rises h.2 hj⟩
theorem neat_or {b : Bool} {t : SetTable} (h : Neat b t) (n : Nat) : Neat b (t.orStandIn n) := by
  unfold SetTable.orStandIn
  split
  · exact h
  · exact neat_standIn h n
theorem neat_layNew {b : Bool} {t : SetTable} (h : Neat b t) (es : Array (Int × Value)) (k : Int) (x : Value) : Neat b (layNew t es k x).2.1 := by
  unfold layNew
  split
  · rename_i j d e
    exact neat_or (neat_put h (freeSlot_notLive e)) _
  · exact neat_standIn h _
theorem map_filterMap {g : Nat → Option Nat} : ∀ l : List Nat, ((l.filterMap fun j => (g j).map (j, ·)).map (·.1)) = l.filter fun j => (g j).isSome
  | [] => rfl
  | j :: l => by
    have ih := map_filterMap (g := g) l
    cases e : g j with
    | none => rw [List.filterMap_cons_none (by rw [e]; rfl), ih, List.filter_cons, e]; rfl
    | some v => rw [List.filterMap_cons_some (b := (j, v)) (by rw [e]; rfl), List.map_cons, ih, List.filter_cons, e]; rfl
theorem neat_relaid {b : Bool} {t t' : SetTable} {hs : Array Int} {w : Nat} {o : Array Nat} (h : Neat b t) (e : t.relaid hs w = some (t', o)) : Neat b t' := by
  unfold SetTable.relaid SetTable.laid at e
  cases e1 : SetTable.layClean (SetTable.sizeAbove w - 1) hs with
  | none =>
    rw [e1] at e
    cases e
  | some owner =>
    rw [e1] at e
    cases e
    refine ⟨h.1, ?_⟩
    show (List.map (·.1) ((List.range (SetTable.sizeAbove w - 1 + 1)).filterMap fun j => (owner.getD j none).map (j, ·))).toArray.toList.Pairwise (· < ·)
    rw [List.toList_toArray, map_filterMap]
    exact List.pairwise_lt_range.filter _
theorem neat_relayAll {b : Bool} {t : SetTable} (h : Neat b t) (es : Array (Int × Value)) (w : Nat) : Neat b (relayAll t es w).2.1 := by
  unfold relayAll
  split
  · rename_i t' o e
    dsimp only
    split
    · exact neat_relaid h e
    · exact neat_standIn h _
  · exact neat_standIn h _
/-- the walk over a neat table goes from place to place -/
theorem below_first {xs : Array Nat} (hl : xs.toList.Pairwise (· < ·)) : SetTable.below xs 0 = 0 := by
  obtain ⟨r, e, h1, h2, _⟩ := below_is hl 0
  rw [e]
  cases r with
  | zero => rfl
  | succ r => exact absurd (h2 0 _ (by omega) (Array.getElem?_eq_getElem (by omega))) (Nat.not_lt_zero _)
theorem below_next {xs : Array Nat} (hl : xs.toList.Pairwise (· < ·)) {k v : Nat} (hk : xs[k]? = some v) : SetTable.below xs (v + 1) = k + 1 := by
  obtain ⟨r, e, h1, h2, h3⟩ := below_is hl (v + 1)
  rw [e]
  have hkl : k < xs.size := (Array.getElem?_eq_some_iff.mp hk).1
  rcases Nat.lt_trichotomy r (k + 1) with z | z | z
  · have := h3 k v (by omega) hk
    omega
  · exact z
  · have hlt : k + 1 < xs.size := by omega
    have e1 : xs[k + 1]? = some xs[k + 1] := Array.getElem?_eq_getElem hlt
    have h4 := h2 (k + 1) _ z e1
    have h5 := List.pairwise_iff_getElem.mp hl k (k + 1) (by simpa using hkl) (by simpa using hlt) (by omega)
    rw [Array.getElem_toList, Array.getElem_toList] at h5
    have e2 : xs[k] = v := by
      rw [Array.getElem?_eq_getElem hkl] at hk
      exact Option.some.inj hk
    omega
theorem erase_perm {α : Type} : ∀ {l : List α} {i : Nat} (h : i < l.length), (l[i] :: l.eraseIdx i).Perm l
  | [], i, h => absurd h (Nat.not_lt_zero _)
  | a :: l, 0, h => .refl _
  | a :: l, i + 1, h => (List.Perm.swap a _ _).trans (List.Perm.cons a (erase_perm (l := l) (i := i) (Nat.lt_of_succ_lt_succ h)))
/-- an order picked by the text -/
theorem pick_go {α : Type} (next : Nat → Nat) : ∀ (n k : Nat) (left : List α) (out : Array α), left.length = n → (pickOrder.go next n k left out).toList.Perm (out.toList ++ left)
  | 0, k, left, out, h => by
    have e : left = [] := List.length_eq_zero_iff.mp h
    subst e
    unfold pickOrder.go
    rw [List.append_nil]
  | n + 1, k, left, out, h => by
    unfold pickOrder.go
    have hi : next k % left.length < left.length := Nat.mod_lt _ (by omega)
    rw [List.getElem?_eq_getElem hi]
    have ih := pick_go next n (k + 1) (left.eraseIdx (next k % left.length)) (out.push left[next k % left.length]) (by rw [List.length_eraseIdx_of_lt hi]; omega)
    refine ih.trans ?_
    rw [Array.toList_push, List.append_assoc]
    exact List.Perm.append_left _ (erase_perm hi)
theorem pick_perm {α : Type} (next : Nat → Nat) (xs : Array α) : (pickOrder next xs).toList.Perm xs.toList := pick_go next _ 0 _ #[] (by simp)
end LD
namespace LD
open PySem PySem.Spec PyProof.Rows
/-! a set of whole numbers, with what its walk asks of its table -/
def nOf : Value → Int
  | .int n _ => n
  | _ => 0
theorem ints_all : ∀ {vs : List Value} {ns : List Int}, IntsAre vs ns → (∀ v ∈ vs, ∃ n t, v = .int n t) ∧ vs.map nOf = ns
  | _, _, .nil => ⟨fun v hv => (by cases hv), rfl⟩
  | _, _, .cons n t r => by
    obtain ⟨h1, h2⟩ := ints_all r
    refine ⟨fun v hv => ?_, by rw [List.map_cons, h2]; rfl⟩
    rcases List.mem_cons.mp hv with z | z
    · exact ⟨n, t, z⟩
    · exact h1 v z
theorem ints_of_all : ∀ {vs : List Value}, (∀ v ∈ vs, ∃ n t, v = .int n t) → IntsAre vs (vs.map nOf)
  | [], _ => .nil
  | v :: vs, h => by
    obtain ⟨n, t, rfl⟩ := h v (List.mem_cons_self ..)
    exact .cons n t (ints_of_all fun u hu => h u (List.mem_cons_of_mem _ hu))
theorem ints_perm {vs us : List Value} {ns : List Int} (h : IntsAre vs ns) (p : us.Perm vs) : ∃ ms, IntsAre us ms ∧ ms.Perm ns :=
  ⟨us.map nOf, ints_of_all fun v hv => (ints_all h).1 v (p.mem_iff.mp hv), by rw [← (ints_all h).2]; exact p.map _⟩
theorem ints_mem {k : Int} : ∀ {vs : List Value} {ns : List Int}, IntsAre vs ns → ((∃ v ∈ vs, Value.isInt k v = true) ↔ k ∈ ns)
  | _, _, .nil => by simp
  | _, _, .cons n t r => by
    have ih := ints_mem (k := k) r
    have e : Value.isInt k (.int n t) = true ↔ k = n := ⟨fun z => by obtain ⟨u, hu⟩ := Value.isInt_shape z; cases hu; rfl, fun z => by subst z; simp [Value.isInt]⟩
    rw [List.mem_cons, ← ih, ← e]
    constructor
    · rintro ⟨v, hv, z⟩
      rcases List.mem_cons.mp hv with rfl | hv
      · exact .inl z
      · exact .inr ⟨v, hv, z⟩
    · rintro (z | ⟨v, hv, z⟩)
      · exact ⟨_, List.mem_cons_self .., z⟩
      · exact ⟨v, List.mem_cons_of_mem _ hv, z⟩
theorem ints_snoc : ∀ {vs : List Value} {ns : List Int} {k : Int} {t : Tok}, IntsAre vs ns → IntsAre (vs ++ [.int k t]) (ns ++ [k])
  | _, _, k, t, .nil => .cons k t .nil
  | _, _, k, t, .cons n u r => .cons n u (ints_snoc r)
abbrev byText (w : World) : Bool := w.params.followText "set-order"
/-- the object of a set whose members are these, each once; its table is neat -/
def SetN (prog : Program) (w : World) (h : Heap) (a : Addr) (ns : List Int) : Prop :=
  ∃ o es ep t ks, h.get? a = some o ∧ o.ExactSet ∧ o.data = .set es ep t ∧ ElemsOf (PySem.intKind prog w) es.toList ∧ IntsAre (es.toList.map fun e => e.2) ks ∧ ks.Perm ns ∧ es.size < scanBound ∧ t.fits es.size = true ∧ Neat (!byText w) t
theorem SetN.at {prog : Program} {w : World} {h h' : Heap} {a : Addr} {ns : List Int} (x : SetN prog w h a ns) (k : ∀ o, h.get? a = some o → h'.get? a = some o) : SetN prog w h' a ns := by
  obtain ⟨o, es, ep, t, ks, ho, r⟩ := x
  exact ⟨o, es, ep, t, ks, k o ho, r⟩
section
variable {prog : Program} {w : World} {A : Around} {E : Value → Shared → Prop} {s : Shared}
theorem gave_ok {b : Bool} {Q : Unit → Shared → Prop} (h : Q () s) : wpAny (model prog w) A (match b with | true => rule "set.scan.the-table-gave-way" | false => pure ()) Q E s := by
  cases b with
  | false => exact wpAny_pure h
  | true => exact wpAny_rule h
theorem set_stored {h : Heap} {a : Addr} {o : Obj} {es : Array (Int × Value)} {ep : Nat} {t : SetTable} (es' : Array (Int × Value)) (t' : SetTable) (ho : h.get? a = some o) (hd : o.data = .set es ep t) :
    (h.update a (Obj.putSet es' t')).get? a = some { o with data := .set es' (ep + 1) t' } := by
  have e := putSet_of es' t' hd
  have q := Heap.get?_update_self (Obj.putSet es' t') ho (by rw [e]; rfl)
  rw [e] at q
  exact q
/-- what stands behind a set's finding that a member is new -/
theorem add_tail {a : Addr} {o : Obj} {es e1 : Array (Int × Value)} {ep : Nat} {t t1 : SetTable} {ks ns : List Int} {d : Bool} {R : Option Bool → Shared → Prop}
    (ho : s.heap.get? a = some o) (hx : o.ExactSet) (hd : o.data = .set es ep t) (hel : ElemsOf (PySem.intKind prog w) e1.toList) (hI : IntsAre (e1.toList.map fun e => e.2) ks) (hp : ks.Perm ns) (hb : e1.size < scanBound)
    (hf : t1.fits e1.size = true) (hn : Neat (!byText w) t1) {g : Bool → Sem Unit} (hg : ∀ (b : Bool) (s₁ : Shared) (Q : Unit → Shared → Prop), Q () s₁ → wpAny (model prog w) A (g b) Q E s₁)
    (h : ∀ h', Heap.SameBut a s.heap h' → SetN prog w h' a ns → R (some true) { s with heap := h' }) :
    wpAny (model prog w) A (do
      storeSet a e1 t1
      if (!d && t1.tooFull) = true then do
          g (relayAll t1 e1 (SetTable.grown e1.size)).2.2
          storeSet a (relayAll t1 e1 (SetTable.grown e1.size)).1 (relayAll t1 e1 (SetTable.grown e1.size)).2.1
          pure (some true)
        else pure (some true)) R E s := by
  have ho1 := set_stored e1 t1 ho hd
  have b1 := Heap.SameBut.update s.heap a (Obj.putSet e1 t1)
  refine wpAny_bind (wpAny_storeSet_of ho hd ?_ (fits_of_scanBound hb))
  split
  · have q1 := relayAll_perm t1 e1 (SetTable.grown e1.size)
    have q2 := relayAll_fits t1 e1 (SetTable.grown e1.size)
    have q3 := neat_relayAll hn e1 (SetTable.grown e1.size)
    generalize relayAll t1 e1 (SetTable.grown e1.size) = r at q1 q2 q3 ⊢
    obtain ⟨e2, t2, y⟩ := r
    have z : e2.size = e1.size := by rw [← Array.length_toList, q1.length_eq, Array.length_toList]
    obtain ⟨ms, m1, m2⟩ := ints_perm hI (q1.map fun e => e.2)
    refine wpAny_bind (hg _ _ _ ?_)
    refine wpAny_bind (wpAny_storeSet_of ho1 rfl ?_ (fits_of_scanBound (by rw [z]; exact hb)))
    exact wpAny_pure (h _ (b1.trans (Heap.SameBut.update _ a _)) ⟨_, e2, _, t2, ms, set_stored e2 t2 ho1 rfl, hx, rfl, hel.perm q1, m1, m2.trans hp, by rw [z]; exact hb, q2, q3⟩)
  · exact wpAny_pure (h _ b1 ⟨_, e1, _, t1, ks, ho1, hx, rfl, hel, hI, hp, hb, hf, hn⟩)
theorem add_neat {a : Addr} {ns : List Int} {k : Int} {tk : Tok} {Q : Bool → Shared → Prop} (S : SetN prog w s.heap a ns) (room : ns.length + 1 < scanBound)
    (h : ∀ (b : Bool) h', Heap.SameBut a s.heap h' → SetN prog w h' a (if k ∈ ns then ns else ns ++ [k]) → Q b { s with heap := h' }) :
    wpAny (model prog w) A (setAddHashed a (.int k tk) ((PySem.intKind prog w).hash k)) Q E s := by
  obtain ⟨o, es, ep, t, ks, ho, hx, hd, hel, hI, hp, hb, hf, hn⟩ := S
  have hk : (PySem.intKind prog w).is k (.int k tk) = true := by
    show Value.isInt k (.int k tk) = true
    simp [Value.isInt]
  have hz : es.size = ns.length := by
    have e := hI.length
    rw [List.length_map, Array.length_toList] at e
    rw [e, hp.length_eq]
  unfold setAddHashed setAddHashedIn
  refine wpAny_holding (wpAny_bind (wpAny_setState_of ho hd hf ?_))
  dsimp only
  rw [byScan_of (knd := PySem.intKind prog w) (x := .int k tk) rfl hb hel, if_pos rfl]
  unfold setAddByScan
  refine wpAny_bind (wpAny_bind (wpAny_rule (wpAny_bind (wpAny_setScan_of (knd := PySem.intKind prog w) hk ho hd hf hel ?_))))
  have hm : k ∈ ns ↔ ∃ e ∈ es.toList, (PySem.intKind prog w).is k e.2 = true := by
    rw [← hp.mem_iff, ← ints_mem (k := k) hI]
    constructor
    · rintro ⟨v, hv, z⟩
      obtain ⟨e, he, rfl⟩ := List.mem_map.mp hv
      exact ⟨e, he, z⟩
    · rintro ⟨e, he, z⟩
      exact ⟨_, List.mem_map.mpr ⟨e, he, rfl⟩, z⟩
  cases hr : List.findIdx? (fun e => (PySem.intKind prog w).is k e.2) es.toList with
  | some j =>
    dsimp only
    obtain ⟨hj, hpj, _⟩ := List.findIdx?_eq_some_iff_getElem.mp hr
    have hin : k ∈ ns := hm.mpr ⟨es.toList[j], List.getElem_mem hj, hpj⟩
    rw [if_pos hin] at h
    exact wpAny_pure (wpAny_pure (h _ s.heap (Heap.SameBut.refl a s.heap) ⟨o, es, ep, t, ks, ho, hx, hd, hel, hI, hp, hb, hf, hn⟩))
  | none =>
    dsimp only
    have hin : k ∉ ns := fun z => by
      obtain ⟨e, he, hpe⟩ := hm.mp z
      have q := List.findIdx?_eq_none_iff.mp hr e he
      rw [hpe] at q
      cases q
    rw [if_neg hin] at h
    have q1 := layNew_perm t es ((PySem.intKind prog w).hash k) (.int k tk)
    have q2 := layNew_fits t es ((PySem.intKind prog w).hash k) (.int k tk)
    have q3 := neat_layNew hn es ((PySem.intKind prog w).hash k) (.int k tk)
    generalize layNew t es ((PySem.intKind prog w).hash k) (.int k tk) = L at q1 q2 q3 ⊢
    obtain ⟨e1, t1, d, gv⟩ := L
    dsimp only at q1 q2 q3 ⊢
    rw [Array.toList_push] at q1
    have hb1 : e1.size < scanBound := by
      rw [← Array.length_toList, q1.length_eq, List.length_append, Array.length_toList, hz]
      exact room
    obtain ⟨ms, m1, m2⟩ := ints_perm (vs := (es.toList.map fun e => e.2) ++ [.int k tk]) (us := e1.toList.map fun e => e.2) (ints_snoc hI) (by
      have q := q1.map fun e => e.2
      rw [List.map_append] at q
      exact q)
    have hel1 : ElemsOf (PySem.intKind prog w) e1.toList := (hel.push hk rfl).perm q1
    refine wpAny_bind (gave_ok ?_)
    have fin : ∀ h', Heap.SameBut a s.heap h' → SetN prog w h' a (ns ++ [k]) → wpAny (model prog w) A (match some true with | some added => pure added | none => setAddHashedIn a (.int k tk) ((PySem.intKind prog w).hash k) 99999) Q E { s with heap := h' } := fun h' b' z => wpAny_pure (h true h' b' z)
    split
    · refine wpAny_bind ?_
      rw [hashByValue_scannable 8 (x := .int k tk) rfl]
      refine wpAny_pure ?_
      refine add_tail ho hx hd hel1 m1 (m2.trans (hp.append_right _)) hb1 q2 q3 (fun b s₁ Q' hq => gave_ok hq) fun h' b' z => ?_
      exact wpAny_pure (h true h' b' z)
    · refine wpAny_bind (wpAny_pure ?_)
      rw [if_pos rfl]
      refine add_tail ho hx hd hel1 m1 (m2.trans (hp.append_right _)) hb1 q2 q3 (fun b s₁ Q' hq => gave_ok hq) fun h' b' z => ?_
      exact wpAny_pure (h true h' b' z)
end
/-- the members of a list, each once -/
def uniq : List Int → List Int := List.foldl (fun acc k => if k ∈ acc then acc else acc ++ [k]) []
theorem uniq_snoc (l : List Int) (k : Int) : uniq (l ++ [k]) = if k ∈ uniq l then uniq l else uniq l ++ [k] := by
  unfold uniq
  rw [List.foldl_append]
  rfl
theorem uniq_facts (l : List Int) : (uniq l).Nodup ∧ (∀ k, k ∈ uniq l ↔ k ∈ l) ∧ (uniq l).length ≤ l.length := by
  have q : ∀ (r acc : List Int), acc.Nodup → (r.foldl (fun acc k => if k ∈ acc then acc else acc ++ [k]) acc).Nodup ∧ (∀ k, k ∈ r.foldl (fun acc k => if k ∈ acc then acc else acc ++ [k]) acc ↔ k ∈ acc ∨ k ∈ r) ∧
      (r.foldl (fun acc k => if k ∈ acc then acc else acc ++ [k]) acc).length ≤ acc.length + r.length := by
    intro r
    induction r with
    | nil => exact fun acc h => ⟨h, fun k => by simp, Nat.le_refl _⟩
    | cons x r ih =>
      intro acc h
      rw [List.foldl_cons]
      by_cases c : x ∈ acc
      · rw [if_pos c]
        obtain ⟨i1, i2, i3⟩ := ih acc h
        refine ⟨i1, fun k => ?_, by rw [List.length_cons]; omega⟩
        rw [i2, List.mem_cons]
        exact ⟨fun z => z.elim .inl fun z => .inr (.inr z), fun z => z.elim .inl fun z => z.elim (fun e => .inl (e ▸ c)) .inr⟩
      · rw [if_neg c]
        obtain ⟨i1, i2, i3⟩ := ih (acc ++ [x]) (by
          rw [List.nodup_append]
          exact ⟨h, by simp, fun a ha b hb e => c (by rw [List.mem_singleton] at hb; rw [← hb, ← e]; exact ha)⟩)
        refine ⟨i1, fun k => ?_, by rw [List.length_append] at i3; rw [List.length_cons]; simpa [Nat.add_assoc, Nat.add_comm 1] using i3⟩
        rw [i2, List.mem_append, List.mem_singleton, List.mem_cons]
        exact ⟨fun z => z.elim (fun z => z.elim .inl fun z => .inr (.inl z)) fun z => .inr (.inr z), fun z => z.elim (fun z => .inl (.inl z)) fun z => z.elim (fun z => .inl (.inr z)) .inr⟩
  obtain ⟨h1, h2, h3⟩ := q l [] .nil
  exact ⟨h1, fun k => (h2 k).trans ⟨fun z => z.elim (fun z => nomatch z) id, .inr⟩, by unfold uniq; simpa using h3⟩
end LD
namespace LD
open PySem PySem.Spec PyProof.Rows
/-! the walk over a set -/
theorem sit_next : Slot "set_iterator" "__next__" "set_iterator.__next__" := .of (owner := "set_iterator") (n := "__next__") (by rw [typeLookup_type, builtinLookup_eq_fast]; kernel_rfl) (by decide +kernel) (by decide +kernel) (by decide +kernel) (by first | exact .inl (by decide +kernel) | exact .inr (by decide +kernel)) (by rw [isSubtype_type]; kernel_rfl)
theorem sit_iter : Slot "set_iterator" "__iter__" "set_iterator.__iter__" := .of (owner := "set_iterator") (n := "__iter__") (by rw [typeLookup_type, builtinLookup_eq_fast]; kernel_rfl) (by decide +kernel) (by decide +kernel) (by decide +kernel) (by first | exact .inl (by decide +kernel) | exact .inr (by decide +kernel)) (by rw [isSubtype_type]; kernel_rfl)
theorem sit_next_entry : entryFor table "set_iterator.__next__" = some Builtin.«set_iterator.__next__» := entryFor_of_tree (by kernel_rfl)
theorem sit_iter_entry : entryFor table "set_iterator.__iter__" = some Builtin.«dict_keyiterator.__iter__» := entryFor_alias (id' := "dict_keyiterator.__iter__") (by kernel_rfl) rfl (by decide +kernel) (by kernel_rfl)
theorem set_iter_entry : entryFor table "set.__iter__" = some Builtin.«frozenset.__iter__» := entryFor_alias (id' := "frozenset.__iter__") (by kernel_rfl) rfl (by decide +kernel) (by kernel_rfl)
theorem sit_owner : Manifest.owners.lookup (String.ofList ['r', 'o', 't', 'a', 'r', 'e', 't', 'i', '_', 't', 'e', 's'].reverse) = some Manifest.sig_set_iterator := by kernel_rfl
theorem sit_next_args (a : Value) : argsOk "set_iterator.__next__" ⟨[a], []⟩ := by
  unfold argsOk
  rw [signature?_of (id := "set_iterator.__next__") (n := ['_', '_', 't', 'x', 'e', 'n', '_', '_']) (o := ['r', 'o', 't', 'a', 'r', 'e', 't', 'i', '_', 't', 'e', 's']) (by kernel_rfl) sit_owner]
  kernel_rfl
theorem sit_iter_args (a : Value) : argsOk "set_iterator.__iter__" ⟨[a], []⟩ := by
  unfold argsOk
  rw [signature?_of (id := "set_iterator.__iter__") (n := ['_', '_', 'r', 'e', 't', 'i', '_', '_']) (o := ['r', 'o', 't', 'a', 'r', 'e', 't', 'i', '_', 't', 'e', 's']) (by kernel_rfl) sit_owner]
  kernel_rfl
/-- a set's iterator: where it stands -/
def SitAt (h : Heap) (it a : Addr) (first : Value) (i n ep : Nat) : Prop := h.get? it = some { cls := .type "set_iterator", dict := none, data := .fields #[first, .int (i : Int) 0, .ref a, .int (n : Int) 0, .int (ep : Int) 0], slots := #[] }
/-- a set as it is walked: it doesn't change -/
def SetIs (h : Heap) (a : Addr) (es : Array (Int × Value)) (ep : Nat) (t : SetTable) : Prop := ∃ o, h.get? a = some o ∧ o.ExactSet ∧ o.data = .set es ep t ∧ t.fits es.size = true
theorem SetIs.at {h h' : Heap} {a : Addr} {es : Array (Int × Value)} {ep : Nat} {t : SetTable} (x : SetIs h a es ep t) (k : ∀ o, h.get? a = some o → h'.get? a = some o) : SetIs h' a es ep t := by
  obtain ⟨o, ho, r⟩ := x
  exact ⟨o, k o ho, r⟩
section
variable {prog : Program} {w : World} {A : Around} {E : Value → Shared → Prop} {s : Shared} {it a : Addr} {es : Array (Int × Value)} {ep : Nat} {t : SetTable}
theorem choose_any {src : Source} {n : Nat} {Q : Nat → Shared → Prop} (hn : n ≠ 0) (h : ∀ k, k < n → ∀ d, Q k { s with drawn := d }) : wpAny (model prog w) A (choose src n) Q E s :=
  fun Γ p hΓ => ⟨hn, h _ (Nat.mod_lt _ (Nat.pos_of_ne_zero hn)) _⟩
theorem draw_perm {α : Type} : ∀ (n : Nat) (l : List α) (s : Shared) (Q : List α → Shared → Prop), l.length = n → (∀ l' d, l'.Perm l → Q l' { s with drawn := d }) → wpAny (model prog w) A (drawOrder n l) Q E s
  | 0, l, s, Q, hl, h => by
    have e : l = [] := List.length_eq_zero_iff.mp hl
    subst e
    unfold drawOrder
    exact wpAny_pure (h [] s.drawn (.refl _))
  | n + 1, [], s, Q, hl, h => by cases hl
  | n + 1, x :: xs, s, Q, hl, h => by
    unfold drawOrder
    refine wpAny_bind (choose_any (by simp) fun k hk d => ?_)
    rw [List.getElem?_eq_getElem hk]
    dsimp only
    refine wpAny_bind (draw_perm n ((x :: xs).eraseIdx k) _ _ (by rw [List.length_eraseIdx_of_lt hk]; omega) fun l' d' hp => ?_)
    exact wpAny_pure (h _ d' ((List.Perm.cons _ hp).trans (erase_perm hk)))
theorem SitAt.typeIs {first : Value} {i n : Nat} (x : SitAt s.heap it a first i n ep) : s.TypeIs (.ref it) "set_iterator" := ⟨_, x, rfl⟩
theorem entries_of {Q : Array (Int × Value) → Shared → Prop} (S : SetIs s.heap a es ep t) (h : Q es s) : wpAny (model prog w) A (setEntries a) Q E s := by
  obtain ⟨o, ho, hx, hd, hf⟩ := S
  unfold setEntries
  exact wpAny_bind (wpAny_setState_of ho hd hf (wpAny_pure h))
theorem stop_now {A : Around} {Q : Option Value → Shared → Prop} (hh : A.handled = none) (hQ : ∀ h', (∀ b o, s.heap.get? b = some o → h'.get? b = some o) → Q none { s with heap := h' }) :
    wpAny (model prog w) A.in1 (do raiseNew (← newExc (.type "StopIteration") []) : Sem Fin) (fun fin s' => ∃ v, fin = .done (.ret v) ∧ wpAny (model prog w) A (pure (some v)) Q E s')
      (fun e s' => wpAny (model prog w) A (do if ← isInstance e (.type "StopIteration") then pure none else throw e) Q E s') s := by
  refine wpAny_bind ?_
  simp only [newExc, newTuple]
  refine wpAny_bind (wpAny_newObj_type ?_ (by size_fits))
  refine wpAny_bind (m := firstArgMember _ _) (wpAny_of_eq (a := Value.none) (by first | rfl | (simp only [firstArgMember]; rfl)) ?_)
  refine wpAny_newObj_type ?_ (by size_fits)
  simp only [raiseNew]
  refine wpAny_bind (wpAny_handled ?_)
  rw [show A.in1.handled = none from hh]
  refine wpAny_bind (wpAny_pure (wpAny_throw ?_))
  refine wpAny_bind (wpAny_isInstance (T := "StopIteration") (b := true) ⟨_, Heap.get?_push_size _ rfl, rfl⟩ isSubtype_stop ?_)
  exact wpAny_pure (hQ _ fun b o e => Heap.get?_push_of_some _ (Heap.get?_push_of_some _ e))
theorem sit_set0 {h : Heap} {first x : Value} {i n : Nat} (hit : SitAt h it a first i n ep) : SitAt (h.update it (Obj.mapFields (·.setIfInBounds 0 x))) it a x i n ep := Heap.get?_update_self _ hit rfl
theorem sit_set1 {h : Heap} {first : Value} {i n : Nat} (hit : SitAt h it a first i n ep) : SitAt (h.update it (Obj.mapFields (·.setIfInBounds 1 (rawInt ((i : Int) + 1))))) it a first (i + 1) n ep := Heap.get?_update_self _ hit rfl
/-- the next by a place or by the text -/
theorem next_int {slot i n nx : Nat} {x : Value} {Q : Option Value → Shared → Prop} (hit : SitAt s.heap it a (.int (slot : Int) 0) i n ep) (S : SetIs s.heap a es ep t) (hn : es.size = n)
    (hx : ∀ (A : Around) (R : Option (Value × Nat) → Shared → Prop) (E' : Value → Shared → Prop), R (some (x, nx)) s → wpAny (model prog w) A (setNext a slot i ep) R E' s)
    (hQ : ∀ h', SitAt h' it a (.int (nx : Int) 0) (i + 1) n ep → (∀ b o, b ≠ it → s.heap.get? b = some o → h'.get? b = some o) → Q (some x) { s with heap := h' }) : wpAny (model prog w) A (pyNext (.ref it)) Q E s := by
  unfold pyNext
  refine wpAny_bind (wpAny_attempt (wpAny_callSpecial?_slot (name := Str.ofString "__next__") hit.typeIs sit_next (wpAny_call_entry sit_next hit.typeIs sit_next_entry ?_ (sit_next_args _))))
  unfold Builtin.«set_iterator.__next__»
  refine wpAny_bind (m := slotArgs _ _ _) (wpAny_pure ?_)
  try dsimp only
  refine wpAny_bind (wpAny_fieldsOf hit rfl ?_)
  try dsimp only
  refine wpAny_bind (entries_of S ?_)
  rw [if_neg (by rw [hn]; simp)]
  try dsimp only
  refine wpAny_bind (hx _ _ _ ?_)
  try dsimp only
  refine wpAny_bind (wpAny_setField hit rfl (by simp) ?_)
  refine wpAny_bind (wpAny_setField (sit_set0 (x := .int (nx : Int) 0) hit) rfl (by simp) (wpAny_pure ⟨x, rfl, ?_⟩))
  refine wpAny_pure (hQ _ (sit_set1 (sit_set0 (x := .int (nx : Int) 0) hit)) fun b o hb e => ?_)
  exact (Heap.get?_update_other _ _ (Ne.symm hb)).trans ((Heap.get?_update_other _ _ (Ne.symm hb)).trans e)
theorem end_int {slot i n : Nat} {Q : Option Value → Shared → Prop} (hh : A.handled = none) (hit : SitAt s.heap it a (.int (slot : Int) 0) i n ep) (S : SetIs s.heap a es ep t) (hn : es.size = n)
    (hx : ∀ (A : Around) (R : Option (Value × Nat) → Shared → Prop) (E' : Value → Shared → Prop), R none s → wpAny (model prog w) A (setNext a slot i ep) R E' s)
    (hQ : ∀ h', (∀ b o, b ≠ it → s.heap.get? b = some o → h'.get? b = some o) → Q none { s with heap := h' }) : wpAny (model prog w) A (pyNext (.ref it)) Q E s := by
  unfold pyNext
  refine wpAny_bind (wpAny_attempt (wpAny_callSpecial?_slot (name := Str.ofString "__next__") hit.typeIs sit_next (wpAny_call_entry sit_next hit.typeIs sit_next_entry ?_ (sit_next_args _))))
  unfold Builtin.«set_iterator.__next__»
  refine wpAny_bind (m := slotArgs _ _ _) (wpAny_pure ?_)
  try dsimp only
  refine wpAny_bind (wpAny_fieldsOf hit rfl ?_)
  try dsimp only
  refine wpAny_bind (entries_of S ?_)
  rw [if_neg (by rw [hn]; simp)]
  try dsimp only
  refine wpAny_bind (hx _ _ _ ?_)
  try dsimp only
  refine wpAny_bind (wpAny_setField hit rfl (by simp) ?_)
  refine stop_now hh fun h' hk => hQ _ fun b o hb e => hk b o ?_
  exact (Heap.get?_update_other _ _ (Ne.symm hb)).trans e
/-- the next by an order that was drawn -/
theorem next_tup {T : Addr} {i n pl : Nat} {ps : Array Value} {ot : Obj} {e0 : Int × Value} {c : Nat} {Q : Option Value → Shared → Prop} (hit : SitAt s.heap it a (.ref T) i n ep) (S : SetIs s.heap a es ep t) (hn : es.size = n)
    (hT : s.heap.get? T = some ot) (hTd : ot.data = .seq ps c) (hp : ps[i]? = some (.int (pl : Int) 0)) (he : es[pl]? = some e0)
    (hQ : ∀ h', SitAt h' it a (.ref T) (i + 1) n ep → (∀ b o, b ≠ it → s.heap.get? b = some o → h'.get? b = some o) → Q (some e0.2) { s with heap := h' }) : wpAny (model prog w) A (pyNext (.ref it)) Q E s := by
  unfold pyNext
  refine wpAny_bind (wpAny_attempt (wpAny_callSpecial?_slot (name := Str.ofString "__next__") hit.typeIs sit_next (wpAny_call_entry sit_next hit.typeIs sit_next_entry ?_ (sit_next_args _))))
  unfold Builtin.«set_iterator.__next__»
  refine wpAny_bind (m := slotArgs _ _ _) (wpAny_pure ?_)
  try dsimp only
  refine wpAny_bind (wpAny_fieldsOf hit rfl ?_)
  try dsimp only
  refine wpAny_bind (entries_of S ?_)
  rw [if_neg (by rw [hn]; simp)]
  try dsimp only
  refine wpAny_bind (wpAny_seqItems hT hTd ?_)
  try dsimp only
  rw [show ((i : Int).toNat) = i from rfl, hp]
  try dsimp only
  refine wpAny_bind ?_
  obtain ⟨o, ho, hx, hd, hf⟩ := S
  unfold setNextDrawn
  refine wpAny_bind (wpAny_setState_of ho hd hf ?_)
  try dsimp only
  rw [if_neg (by simp), show ((pl : Int).toNat) = pl from rfl, he]
  try dsimp only
  refine wpAny_pure ?_
  refine wpAny_bind (wpAny_setField hit rfl (by simp) (wpAny_pure ⟨_, rfl, ?_⟩))
  exact wpAny_pure (hQ _ (sit_set1 hit) fun b o hb e => (Heap.get?_update_other _ _ (Ne.symm hb)).trans e)
theorem end_tup {T : Addr} {i n : Nat} {ps : Array Value} {ot : Obj} {c : Nat} {Q : Option Value → Shared → Prop} (hh : A.handled = none) (hit : SitAt s.heap it a (.ref T) i n ep) (S : SetIs s.heap a es ep t) (hn : es.size = n)
    (hT : s.heap.get? T = some ot) (hTd : ot.data = .seq ps c) (hp : ps[i]? = none)
    (hQ : ∀ h', (∀ b o, b ≠ it → s.heap.get? b = some o → h'.get? b = some o) → Q none { s with heap := h' }) : wpAny (model prog w) A (pyNext (.ref it)) Q E s := by
  unfold pyNext
  refine wpAny_bind (wpAny_attempt (wpAny_callSpecial?_slot (name := Str.ofString "__next__") hit.typeIs sit_next (wpAny_call_entry sit_next hit.typeIs sit_next_entry ?_ (sit_next_args _))))
  unfold Builtin.«set_iterator.__next__»
  refine wpAny_bind (m := slotArgs _ _ _) (wpAny_pure ?_)
  try dsimp only
  refine wpAny_bind (wpAny_fieldsOf hit rfl ?_)
  try dsimp only
  refine wpAny_bind (entries_of S ?_)
  rw [if_neg (by rw [hn]; simp)]
  try dsimp only
  refine wpAny_bind (wpAny_seqItems hT hTd ?_)
  try dsimp only
  rw [show ((i : Int).toNat) = i from rfl, hp]
  try dsimp only
  refine wpAny_bind (wpAny_setField hit rfl (by simp) ?_)
  refine wpAny_bind (wpAny_setField (sit_set0 (x := rawInt 0) hit) rfl (by simp) ?_)
  refine stop_now hh fun h' hk => hQ _ fun b o hb e => hk b o ?_
  exact (Heap.get?_update_other _ _ (Ne.symm hb)).trans ((Heap.get?_update_other _ _ (Ne.symm hb)).trans e)
theorem sit_self {first : Value} {i n : Nat} {Q : Value → Shared → Prop} (hit : SitAt s.heap it a first i n ep) (h : Q (.ref it) s) : wpAny (model prog w) A (pyIter (.ref it)) Q E s := by
  refine wpAny_pyIter_slot hit.typeIs sit_iter (wpAny_call_entry sit_iter hit.typeIs sit_iter_entry ?_ (sit_iter_args _))
  show wpAny _ _ (ret (.ref it)) _ _ s
  exact wpAny_pure ⟨_, rfl, "set_iterator", _, hit.typeIs, sit_next.lookup, h⟩
end
end LD
namespace LD
open PySem PySem.Spec PyProof.Rows
/-- the i-th that is walked -/
def AtL (L : List (Int × Value)) (i : Nat) (v : Value) : Prop := ∃ e, L[i]? = some e ∧ v = e.2
theorem items_atL {L : List (Int × Value)} {acc : Array Value} (h : ItemsOf (AtL L) acc L.length) : acc.toList = L.map fun e => e.2 := by
  refine List.ext_getElem? fun i => ?_
  rw [List.getElem?_map, Array.getElem?_toList]
  by_cases c : i < acc.size
  · obtain ⟨e, h1, h2⟩ := h.2 i acc[i] (Array.getElem?_eq_getElem c)
    rw [Array.getElem?_eq_getElem c, h1, h2]
    rfl
  · rw [Array.getElem?_eq_none (by omega), List.getElem?_eq_none (by rw [← h.1]; omega)]
    rfl
theorem getD_range {es : Array (Int × Value)} : ((List.range es.size).map fun k => es.getD k (0, .none)) = es.toList := by
  refine List.ext_getElem? fun i => ?_
  have e : es.toList[i]? = es[i]? := Array.getElem?_toList ..
  rw [List.getElem?_map, e]
  by_cases c : i < es.size
  · rw [List.getElem?_eq_getElem (l := List.range es.size) (by rw [List.length_range]; exact c), List.getElem_range, Array.getElem?_eq_getElem c]
    show some (es.getD i _) = _
    rw [Array.getD_eq_getD_getElem?, Array.getElem?_eq_getElem c]
    rfl
  · rw [List.getElem?_eq_none (l := List.range es.size) (by rw [List.length_range]; omega), Array.getElem?_eq_none (xs := es) (by omega)]
    rfl
section
variable {prog : Program} {w : World} {A : Around} {E : Value → Shared → Prop} {s : Shared} {it a : Addr} {es : Array (Int × Value)} {ep : Nat} {t : SetTable}
theorem text_of {Q : Bool → Shared → Prop} (h : Q (byText w) s) : wpAny (model prog w) A setsByText Q E s := by
  unfold setsByText
  exact wpAny_bind (wpAny_askSetting (wpAny_pure h))
theorem setNext_place {slot i g e0 : Nat} {R : Option (Value × Nat) → Shared → Prop} (S : SetIs s.heap a es ep t) (hn : Neat (!byText w) t) (hb : byText w = false) (hd : (!t.plain && decide (es.size > 1)) = false) (hs : SetTable.below t.place slot = i)
    (h : R (match es[i]?, t.place[i]? with | some (_, x), some j => some (x, j + 1) | _, _ => none) s) : wpAny (model prog w) A (setNext a slot g e0) R E s := by
  obtain ⟨o, ho, hx, hdt, hf⟩ := S
  have hl : t.led = true := by rw [hn.1, hb]; rfl
  unfold setNext
  refine wpAny_bind (wpAny_setState_of ho hdt hf ?_)
  try dsimp only
  refine wpAny_bind (text_of ?_)
  rw [if_neg (by rw [hb]; exact Bool.false_ne_true)]
  refine wpAny_bind (wpAny_pure ?_)
  show wpAny _ _ (if (!t.plain && decide (es.size > 1)) = true then _ else _) _ _ _
  rw [if_neg (by rw [hd]; exact Bool.false_ne_true)]
  show wpAny _ _ ((if (!t.led && !es.isEmpty) = true then unsupported "set:maker-not-led" else pure ()) >>= _) _ _ _
  rw [if_neg (by rw [hl]; exact Bool.false_ne_true)]
  refine wpAny_bind (wpAny_pure ?_)
  rw [hs]
  exact wpAny_pure h
theorem setNext_text {slot i : Nat} {R : Option (Value × Nat) → Shared → Prop} (S : SetIs s.heap a es ep t) (hb : byText w = true)
    (h : R (((pickOrder (w.params.setOrder a ep) es)[i]?).map fun e => (e.2, slot)) s) : wpAny (model prog w) A (setNext a slot i ep) R E s := by
  obtain ⟨o, ho, hx, hdt, hf⟩ := S
  unfold setNext
  refine wpAny_bind (wpAny_setState_of ho hdt hf ?_)
  try dsimp only
  refine wpAny_bind (text_of ?_)
  rw [if_pos hb, if_neg (by simp)]
  try refine wpAny_bind (wpAny_pure ?_)
  unfold setWalk
  refine wpAny_bind (wpAny_bind (wpAny_setState_of ho hdt hf ?_))
  try dsimp only
  refine wpAny_bind (text_of ?_)
  rw [if_pos hb]
  exact wpAny_bind (wpAny_askSetting (wpAny_pure (wpAny_pure h)))
theorem walk_place (hh : A.handled = none) (hne : a ≠ it) (hn : Neat (!byText w) t) (hb : byText w = false) (hd : (!t.plain && decide (es.size > 1)) = false) (hf : t.fits es.size = true) :
    WalksS prog w A it [it, a] [it] (fun x y => y = x) es.toList.length (AtL es.toList) (fun i s => SetIs s.heap a es ep t ∧ ∃ slot : Nat, SitAt s.heap it a (.int (slot : Int) 0) i es.size ep ∧ SetTable.below t.place slot = i) where
  sub := fun b hb => by rw [List.mem_singleton] at hb; rw [hb]; exact List.mem_cons_self ..
  grefl := fun _ => rfl
  gtrans := fun _ _ _ h1 h2 => h2.trans h1
  frame := fun i s h' tk st _ hk => ⟨st.1.at fun o e => hk a (by simp) o e, let ⟨slot, h1, h2⟩ := st.2; ⟨slot, hk it (by simp) _ h1, h2⟩⟩
  item := fun i s Q E hi st hQ => by
    obtain ⟨S, slot, h1, h2⟩ := st
    rw [Array.length_toList] at hi
    have hp : t.place.size = es.size := by
      simp only [SetTable.fits, Bool.and_eq_true, beq_iff_eq] at hf
      exact hf.1
    have e1 : es[i]? = some es[i] := Array.getElem?_eq_getElem hi
    have e2 : t.place[i]? = some t.place[i] := Array.getElem?_eq_getElem (by omega)
    refine next_int (nx := t.place[i] + 1) (x := es[i].2) h1 S rfl (fun A R E' hR => setNext_place S hn hb hd h2 (by rw [e1, e2]; exact hR)) fun h' k1 k2 => ?_
    exact hQ _ _ ⟨es[i], by rw [Array.getElem?_toList]; exact e1, rfl⟩ ⟨S.at fun o e => k2 a o hne e, _, k1, below_next hn.2 e2⟩ ⟨fun b o hb e => k2 b o (fun z => hb (by rw [z]; exact List.mem_cons_self ..)) e, rfl, rfl, rfl, Nat.le_refl _⟩
  done := fun s Q E st hQ => by
    obtain ⟨S, slot, h1, h2⟩ := st
    rw [Array.length_toList] at h1 h2
    refine end_int hh h1 S rfl (fun A R E' hR => setNext_place S hn hb hd h2 (by rw [Array.getElem?_eq_none (Nat.le_refl _)]; exact hR)) fun h' k2 => ?_
    exact hQ _ ⟨fun b o hb e => k2 b o (fun z => hb (by rw [z]; exact List.mem_cons_self ..)) e, rfl, rfl, rfl, Nat.le_refl _⟩
  self := fun i s Q E st hQ => by
    obtain ⟨S, slot, h1, h2⟩ := st
    exact sit_self h1 hQ
theorem walk_text (hh : A.handled = none) (hne : a ≠ it) (hb : byText w = true) :
    WalksS prog w A it [it, a] [it] (fun x y => y = x) (pickOrder (w.params.setOrder a ep) es).toList.length (AtL (pickOrder (w.params.setOrder a ep) es).toList) (fun i s => SetIs s.heap a es ep t ∧ ∃ slot : Nat, SitAt s.heap it a (.int (slot : Int) 0) i es.size ep) where
  sub := fun b hb => by rw [List.mem_singleton] at hb; rw [hb]; exact List.mem_cons_self ..
  grefl := fun _ => rfl
  gtrans := fun _ _ _ h1 h2 => h2.trans h1
  frame := fun i s h' tk st _ hk => ⟨st.1.at fun o e => hk a (by simp) o e, let ⟨slot, h1⟩ := st.2; ⟨slot, hk it (by simp) _ h1⟩⟩
  item := fun i s Q E hi st hQ => by
    obtain ⟨S, slot, h1⟩ := st
    have hi : i < (pickOrder (w.params.setOrder a ep) es).size := hi
    have e1 : (pickOrder (w.params.setOrder a ep) es)[i]? = some (pickOrder (w.params.setOrder a ep) es)[i] := Array.getElem?_eq_getElem hi
    refine next_int (nx := slot) (x := (pickOrder (w.params.setOrder a ep) es)[i].2) h1 S rfl (fun A R E' hR => setNext_text S hb (by rw [e1]; exact hR)) fun h' k1 k2 => ?_
    exact hQ _ _ ⟨_, by rw [Array.getElem?_toList]; exact e1, rfl⟩ ⟨S.at fun o e => k2 a o hne e, _, k1⟩ ⟨fun b o hb e => k2 b o (fun z => hb (by rw [z]; exact List.mem_cons_self ..)) e, rfl, rfl, rfl, Nat.le_refl _⟩
  done := fun s Q E st hQ => by
    obtain ⟨S, slot, h1⟩ := st
    refine end_int hh h1 S rfl (fun A R E' hR => setNext_text S hb (by rw [Array.getElem?_eq_none (by rw [Array.length_toList]; exact Nat.le_refl _)]; exact hR)) fun h' k2 => ?_
    exact hQ _ ⟨fun b o hb e => k2 b o (fun z => hb (by rw [z]; exact List.mem_cons_self ..)) e, rfl, rfl, rfl, Nat.le_refl _⟩
  self := fun i s Q E st hQ => by
    obtain ⟨S, slot, h1⟩ := st
    exact sit_self h1 hQ
theorem walk_drawn {T : Addr} {pl : List Nat} (hh : A.handled = none) (hne : a ≠ it) (hne2 : T ≠ it) (hp : pl.Perm (List.range es.size)) :
    WalksS prog w A it [it, a, T] [it] (fun x y => y = x) (pl.map fun k => es.getD k (0, .none)).length (AtL (pl.map fun k => es.getD k (0, .none))) (fun i s => SetIs s.heap a es ep t ∧ SitAt s.heap it a (.ref T) i es.size ep ∧ s.heap.get? T = some { cls := .type "tuple", data := .seq (pl.map fun (k : Nat) => rawInt (k : Int)).toArray }) where
  sub := fun b hb => by rw [List.mem_singleton] at hb; rw [hb]; exact List.mem_cons_self ..
  grefl := fun _ => rfl
  gtrans := fun _ _ _ h1 h2 => h2.trans h1
  frame := fun i s h' tk st _ hk => ⟨st.1.at fun o e => hk a (by simp) o e, hk it (by simp) _ st.2.1, hk T (by simp) _ st.2.2⟩
  item := fun i s Q E hi st hQ => by
    obtain ⟨S, h1, h2⟩ := st
    rw [List.length_map] at hi
    have hk : pl[i] < es.size := List.mem_range.mp (hp.mem_iff.mp (List.getElem_mem hi))
    have e1 : es[pl[i]]? = some es[pl[i]] := Array.getElem?_eq_getElem hk
    refine next_tup (pl := pl[i]) (e0 := es[pl[i]]) h1 S rfl h2 rfl (by rw [List.getElem?_toArray, List.getElem?_map, List.getElem?_eq_getElem hi]; rfl) e1 fun h' k1 k2 => ?_
    refine hQ _ _ ⟨es[pl[i]], ?_, rfl⟩ ⟨S.at fun o e => k2 a o hne e, k1, k2 T _ hne2 h2⟩ ⟨fun b o hb e => k2 b o (fun z => hb (by rw [z]; exact List.mem_cons_self ..)) e, rfl, rfl, rfl, Nat.le_refl _⟩
    rw [List.getElem?_map, List.getElem?_eq_getElem hi]
    show some (es.getD pl[i] _) = _
    rw [Array.getD_eq_getD_getElem?, e1]
    rfl
  done := fun s Q E st hQ => by
    obtain ⟨S, h1, h2⟩ := st
    refine end_tup hh h1 S rfl h2 rfl (by rw [List.getElem?_toArray, List.getElem?_eq_none (by rw [List.length_map, List.length_map]; exact Nat.le_refl _)]) fun h' k2 => ?_
    exact hQ _ ⟨fun b o hb e => k2 b o (fun z => hb (by rw [z]; exact List.mem_cons_self ..)) e, rfl, rfl, rfl, Nat.le_refl _⟩
  self := fun i s Q E st hQ => sit_self st.2.1 hQ
/-- a set's iterator is made: in one of three ways, each of which walks all its members -/
theorem iter_set {ns : List Int} {Q : Value → Shared → Prop} (S : SetN prog w s.heap a ns) (hh : A.handled = none)
    (h : ∀ (I : Addr) (fp : List Addr) (P : Nat → Value → Prop) (St : Nat → Shared → Prop) (h' : Heap) (d : Drawn), WalksS prog w A I fp [I] (fun x y => y = x) ns.length P St → St 0 { s with heap := h', drawn := d } →
      s.heap.objs.size ≤ I → (∀ b ∈ fp, b = a ∨ s.heap.objs.size ≤ b) → (∀ acc, ItemsOf P acc ns.length → ∃ ms, IntsAre acc.toList ms ∧ ms.Perm ns) → (∀ b o, s.heap.get? b = some o → h'.get? b = some o) → Q (.ref I) { s with heap := h', drawn := d }) :
    wpAny (model prog w) A (pyIter (.ref a)) Q E s := by
  obtain ⟨o, es, ep, t, ks, ho, hx, hd, hel, hI, hp, hb, hf, hn⟩ := S
  have hT : s.TypeIs (.ref a) "set" := ⟨o, ho, hx.1⟩
  have hlt : a < s.heap.objs.size := Heap.lt_size ho
  have hz : es.size = ns.length := by
    have e := hI.length
    rw [List.length_map, Array.length_toList] at e
    rw [e, hp.length_eq]
  have fin : ∀ L : List (Int × Value), L.Perm es.toList → ∀ acc, ItemsOf (AtL L) acc L.length → ∃ ms, IntsAre acc.toList ms ∧ ms.Perm ns := by
    intro L hL acc ha
    obtain ⟨ms, m1, m2⟩ := ints_perm hI (hL.map fun e => e.2)
    exact ⟨ms, by rw [items_atL ha]; exact m1, m2.trans hp⟩
  have len : ∀ L : List (Int × Value), L.Perm es.toList → L.length = ns.length := fun L hL => by rw [hL.length_eq, Array.length_toList, hz]
  refine wpAny_pyIter_slot hT F.slot_set_iter (wpAny_call_entry F.slot_set_iter hT set_iter_entry ?_ (F.args_set_iter_1 _))
  unfold Builtin.«frozenset.__iter__» Builtin.Frozenset.slot0 Builtin.Frozenset.sizeOf
  refine wpAny_bind (wpAny_bind (m := slotArgs _ _ _) (wpAny_pure (wpAny_pure ?_)))
  refine wpAny_bind (wpAny_bind (entries_of ⟨o, ho, hx, hd, hf⟩ (wpAny_pure ?_)))
  unfold setDrawn
  refine wpAny_bind (wpAny_bind (wpAny_setState_of ho hd hf ?_))
  try dsimp only
  refine wpAny_bind (text_of (wpAny_pure ?_))
  have epo : ∀ (h1 : Heap) (dr : Drawn) (R : Nat → Shared → Prop) (A : Around) (E : Value → Shared → Prop), h1.get? a = some o → R ep { s with heap := h1, drawn := dr } → wpAny (model prog w) A (setEpoch a) R E { s with heap := h1, drawn := dr } :=
    fun h1 dr R A E e hr => wpAny_setEpoch_of (s := { s with heap := h1, drawn := dr }) e hd hf hr
  show wpAny _ _ (if (!byText w && (!t.plain && decide (es.size > 1))) = true then _ else _) _ _ _
  by_cases c : (!byText w && (!t.plain && decide (es.size > 1))) = true
  · rw [if_pos c]
    refine wpAny_bind (draw_perm _ _ _ _ (List.length_range ..) fun pl d hpl => ?_)
    have hpn : pl.length = ns.length := by rw [hpl.length_eq, List.length_range, hz]
    have hl2 : (pl.map fun k => es.getD k (0, Value.none)).Perm es.toList := by
      rw [← getD_range]
      exact hpl.map _
    refine wpAny_bind (wpAny_newTuple ?_ (by rw [List.length_map, hpn, ← hz]; exact fits_of_scanBound hb))
    refine wpAny_bind (epo _ d _ _ _ (Heap.get?_push_of_some _ ho) ?_)
    refine wpAny_bind (wpAny_newObj_type (wpAny_pure ⟨_, rfl, "set_iterator", _, ⟨_, Heap.get?_push_size _ rfl, rfl⟩, sit_next.lookup, ?_⟩))
    have W := walk_drawn (prog := prog) (w := w) (A := A) (it := (s.heap.push { cls := .type "tuple", data := .seq (pl.map fun (i : Nat) => rawInt (i : Int)).toArray }).objs.size) (a := a) (es := es) (ep := ep) (t := t) (T := s.heap.objs.size) hh (by rw [Heap.size_push]; exact Nat.ne_of_lt (Nat.lt_succ_of_lt hlt)) (by rw [Heap.size_push]; exact Nat.ne_of_lt (Nat.lt_succ_self _)) hpl
    have F := fin _ hl2
    rw [len _ hl2] at W F
    refine h _ _ _ _ _ d W ⟨⟨o, Heap.get?_push_of_some _ (Heap.get?_push_of_some _ ho), hx, hd, hf⟩, ?_, ?_⟩ ?_ (fun b hb => ?_) F (fun b ob e => Heap.get?_push_of_some _ (Heap.get?_push_of_some _ e))
    · exact Heap.get?_push_size _ rfl
    · exact Heap.get?_push_of_some _ (Heap.get?_push_size _ rfl)
    · rw [Heap.size_push]; exact Nat.le_succ _
    · simp only [List.mem_cons, List.not_mem_nil, or_false] at hb
      rcases hb with rfl | rfl | rfl
      · exact .inr (by rw [Heap.size_push]; exact Nat.le_succ _)
      · exact .inl rfl
      · exact .inr (Nat.le_refl _)
  · rw [if_neg c]
    refine wpAny_bind (wpAny_pure ?_)
    refine wpAny_bind (epo s.heap s.drawn _ _ _ ho ?_)
    refine wpAny_bind (wpAny_newObj_type (wpAny_pure ⟨_, rfl, "set_iterator", _, ⟨_, Heap.get?_push_size _ rfl, rfl⟩, sit_next.lookup, ?_⟩))
    cases hb2 : byText w with
    | true =>
      have hl2 := pick_perm (w.params.setOrder a ep) es
      have W := walk_text (prog := prog) (w := w) (A := A) (it := s.heap.objs.size) (a := a) (es := es) (ep := ep) (t := t) hh (Nat.ne_of_lt hlt) hb2
      have F := fin _ hl2
      rw [len _ hl2] at W F
      refine h _ _ _ _ _ s.drawn W ⟨⟨o, Heap.get?_push_of_some _ ho, hx, hd, hf⟩, 0, Heap.get?_push_size _ rfl⟩ (Nat.le_refl _) (fun b hb => ?_) F (fun b ob e => Heap.get?_push_of_some _ e)
      simp only [List.mem_cons, List.not_mem_nil, or_false] at hb
      rcases hb with rfl | rfl
      · exact .inr (Nat.le_refl _)
      · exact .inl rfl
    | false =>
      rw [hb2] at c
      have c : (!t.plain && decide (es.size > 1)) = false := by simpa using c
      have W := walk_place (prog := prog) (w := w) (A := A) (it := s.heap.objs.size) (a := a) (es := es) (ep := ep) (t := t) hh (Nat.ne_of_lt hlt) hn hb2 c hf
      have F := fin _ (.refl _)
      rw [len _ (.refl _)] at W F
      refine h _ _ _ _ _ s.drawn W ⟨⟨o, Heap.get?_push_of_some _ ho, hx, hd, hf⟩, 0, Heap.get?_push_size _ rfl, below_first hn.2⟩ (Nat.le_refl _) (fun b hb => ?_) F (fun b ob e => Heap.get?_push_of_some _ e)
      simp only [List.mem_cons, List.not_mem_nil, or_false] at hb
      rcases hb with rfl | rfl
      · exact .inr (Nat.le_refl _)
      · exact .inl rfl
end
end LD
namespace LD
open PySem PySem.Spec PyProof.Rows
section
variable {prog : Program} {w : World} {A : Around} {E : Value → Shared → Prop} {s : Shared} {a : Addr}
theorem set_len : typeLookup (.type "set") "__len__" = pure (some (.builtin "set.__len__")) := by rw [typeLookup_type, builtinLookup_eq_fast]; kernel_rfl
theorem hint_set {Q : Bool → Shared → Prop} (hT : s.TypeIs (.ref a) "set") (h : Q false s) : wpAny (model prog w) A (Builtin.List.listLengthHint (.ref a)) Q E s := by
  unfold Builtin.List.listLengthHint
  refine wpAny_bind (wpAny_specialOf hT set_len ?_)
  generalize hid : ("set.__len__" : String) = id0
  wp_delta
  rw [show splitId id0 = some ("set", "__len__") from by subst hid; decide +kernel]
  subst hid
  refine wpAny_bind (wpAny_isInstance (T := "set") (b := true) hT (by rw [isSubtype_type]; kernel_rfl) ?_)
  refine wpAny_ite_split (fun hab => absurd hab (by decide)) (fun _ => ?_)
  refine wpAny_ite_split (fun _ => ?_) (fun hab => absurd (by decide +kernel) hab)
  exact wpAny_bind (wpAny_typeOf hT (wpAny_pure h))
theorem moved_is {wr : List Addr} {s s' : Shared} (m : Moved wr (fun x y => y = x) s s') : s' = { s with heap := s'.heap, toks := s'.toks } := by
  obtain ⟨h', g', d', tk', os'⟩ := s'
  have e1 : g' = s.gens := m.gens
  have e2 : d' = s.drawn := m.drawn
  have e3 : os' = s.os := m.os
  subst e1 e2 e3
  rfl
theorem collect_set {ns : List Int} {Q : List Value → Shared → Prop} (S : SetN prog w s.heap a ns) (hh : A.handled = none) (hz : ns.length ≤ sizeLine)
    (h : ∀ (h' : Heap) (d : Drawn) (tk : Nat) (vs : List Value) (ms : List Int), (∀ b o, s.heap.get? b = some o → h'.get? b = some o) → s.heap.objs.size < h'.objs.size → IntsAre vs ms → ms.Perm ns → Q vs { s with heap := h', drawn := d, toks := tk }) :
    wpAny (model prog w) A (collect (.ref a)) Q E s := by
  have hT : ∀ s' : Shared, (∀ o, s.heap.get? a = some o → s'.heap.get? a = some o) → s'.TypeIs (.ref a) "set" := fun s' k => by
    obtain ⟨o, _, _, _, _, ho, hx, _⟩ := S
    exact ⟨o, k o ho, hx.1⟩
  have hlt : a < s.heap.objs.size := by
    obtain ⟨o, _, _, _, _, ho, _⟩ := S
    exact Heap.lt_size ho
  unfold collect
  refine wpAny_bind (wpAny_runValue (codeAny_builtin F.entry_proto_collect ?_))
  rw [Around.under_plainId F.plain_proto_collect _]
  show wpAny _ A.in1 (newList [] >>= fun l => again (.builtin "list.__iadd__" ⟨[l, .ref a], []⟩)) _ _ s
  refine wpAny_bind (wpAny_newObj_type (wpAny_pure ⟨plainId_quiet F.plain_list_iadd _, codeAny_builtin F.entry_list_iadd ?_⟩))
  rw [Around.under_plainId F.plain_list_iadd _]
  have k1 : ∀ b o, s.heap.get? b = some o → (s.heap.push { cls := .type "list", data := .seq ([] : List Value).toArray }).get? b = some o := fun b o e => Heap.get?_push_of_some _ e
  have hS : (s.heap.push { cls := .type "list", data := .seq ([] : List Value).toArray }).get? s.heap.objs.size = some { cls := .type "list", data := .seq ([] : List Value).toArray } := Heap.get?_push_size _ rfl
  show wpAny _ A.in1 (Builtin.List.listExtendWith (.ref s.heap.objs.size) (.ref a) (.ref s.heap.objs.size)) _ _ _
  unfold Builtin.List.listExtendWith
  refine wpAny_bind (wpAny_typeOf (T := "set") (hT _ fun o e => k1 a o e) ?_)
  have n1 : Builtin.List.listSameRef (.ref s.heap.objs.size) (.ref a) = false := by
    show (s.heap.objs.size == a) = false
    rw [beq_eq_false_iff_ne]
    exact Nat.ne_of_gt hlt
  rw [if_neg (by rw [n1]; decide)]
  refine wpAny_bind (iter_set (S.at fun o e => k1 a o e) hh fun I fp P St h' d W st hI hfp hit hk => ?_)
  have hSh := hk _ _ hS
  refine wpAny_bind (wpAny_holding (hint_set (hT _ fun o e => hk a o (k1 a o e)) ?_))
  have hSf : s.heap.objs.size ∉ fp := fun z => by
    rcases hfp _ z with e | e
    · exact absurd e (Nat.ne_of_gt hlt)
    · rw [Heap.size_push] at e
      exact absurd e (Nat.not_succ_le_self _)
  refine wpAny_ite_split (fun _ => ?_) (fun hab => absurd (by decide +kernel) hab)
  refine wpAny_bind (wpAny_rule ?_)
  refine wpAny_bind ?_
  show wpAny _ _ (updateSeq s.heap.objs.size (·.push .none) >>= fun _ => updateSeq s.heap.objs.size (·.pop)) _ _ _
  refine wpAny_bind (wpAny_updateSeq hSh rfl ?_)
  have hS2 := Heap.get?_update_self (Obj.mapSeq (·.push Value.none)) hSh rfl
  refine wpAny_updateSeq hS2 rfl ?_
  have hS3 := Heap.get?_update_self (Obj.mapSeq (·.pop)) hS2 rfl
  have k3 : ∀ b o, b ≠ s.heap.objs.size → h'.get? b = some o → ((h'.update s.heap.objs.size (Obj.mapSeq (·.push Value.none))).update s.heap.objs.size (Obj.mapSeq (·.pop))).get? b = some o := fun b o hb e =>
    (Heap.get?_update_other _ _ (Ne.symm hb)).trans ((Heap.get?_update_other _ _ (Ne.symm hb)).trans e)
  have st3 := W.frame 0 { s with heap := h', drawn := d } ((h'.update s.heap.objs.size (Obj.mapSeq (·.push Value.none))).update s.heap.objs.size (Obj.mapSeq (·.pop))) s.toks st (Nat.le_refl _) fun b hb o e => k3 b o (fun z => hSf (z ▸ hb)) e
  refine wpAny_pure ⟨plainId_quiet F.plain_extend_loop _, codeAny_extend_loopS W hz _ hSf _ ns.length 0 _ #[] _ rfl (Nat.zero_le _) st3 hS3 (ItemsOf.nil P) fun s' acc c hm hS' hacc => ?_⟩
  show wpAny _ A (load s.heap.objs.size >>= _) _ _ s'
  refine wpAny_bind (wpAny_load hS' ?_)
  obtain ⟨ms, m1, m2⟩ := hit acc hacc
  have q := h s'.heap d s'.toks acc.toList ms (fun b o e => hm.heap b o (fun z => ?_) (k3 b o (Nat.ne_of_lt (Heap.lt_size e)) (hk b o (k1 b o e)))) (Heap.lt_size hS') m1 m2
  · rw [moved_is hm]
    exact wpAny_pure q
  · rcases List.mem_cons.mp z with z | z
    · exact absurd z (Nat.ne_of_lt (Heap.lt_size e))
    · rw [List.mem_singleton.mp z] at e
      have := Heap.lt_size e
      rw [Heap.size_push] at hI
      exact absurd (Nat.lt_of_lt_of_le this (Nat.le_trans (Nat.le_succ _) hI)) (Nat.lt_irrefl _)
end
end LD
namespace LD
open PySem PySem.Spec PyProof.Rows
section
variable {prog : Program} {w : World} {A : Around} {E : Value → Shared → Prop} {s : Shared} {a : Addr}
theorem int_is (k : Int) (t : Tok) : (PySem.intKind prog w).is k (.int k t) = true := by
  show Value.isInt k (.int k t) = true
  simp [Value.isInt]
theorem fill_entry : entryFor table "set.update.loop" = some Builtin.«set.update.loop» := entryFor_of_tree (by kernel_rfl)
theorem fill_plain : plainId "set.update.loop" = true := by decide +kernel
theorem take_get {ns : List Int} {i : Nat} (h : i < ns.length) : ns.take (i + 1) = ns.take i ++ [ns.getD i 0] := by
  rw [List.take_add_one, List.getD_eq_getElem?_getD, List.getElem?_eq_getElem h]
  rfl
theorem uniq_take {ns : List Int} {i : Nat} (h : i < ns.length) : uniq (ns.take (i + 1)) = if ns.getD i 0 ∈ uniq (ns.take i) then uniq (ns.take i) else uniq (ns.take i) ++ [ns.getD i 0] := by
  rw [take_get h, uniq_snoc]
theorem fill_loop {R : Result → Shared → Prop} {I : Addr} {fp wr : List Addr} {ns : List Int} {P : Nat → Value → Prop} {St : Nat → Shared → Prop} (W : WalksS prog w A.in1 I fp wr (fun x y => y = x) ns.length P St) (hSf : a ∉ fp)
    (hP : ∀ i v, P i v → ∃ t, v = .int (ns.getD i 0) t) (hb : ns.length + 1 < scanBound) :
    ∀ (k i : Nat) (s : Shared), ns.length - i = k → i ≤ ns.length → St i s → SetN prog w s.heap a (uniq (ns.take i)) →
      (∀ s', Moved (a :: wr) (fun x y => y = x) s s' → SetN prog w s'.heap a (uniq ns) → R (.ok (.ret .none)) s') →
      codeAny (model prog w) A (.builtin "set.update.loop" ⟨[.ref a, .ref I], []⟩) R s := by
  have hSw : a ∉ wr := fun z => hSf (W.sub _ z)
  have sub : ∀ b ∈ wr, b ∈ a :: wr := fun b z => List.mem_cons_of_mem _ z
  intro k
  induction k with
  | zero =>
    intro i s hk hi st hS hR
    have e : i = ns.length := by omega
    subst e
    refine codeAny_builtin fill_entry ?_
    rw [Around.under_plainId fill_plain _]
    show wpAny _ A.in1 (pyNext (.ref I) >>= _) _ _ s
    refine wpAny_bind (W.done s _ _ st fun s' hm => ?_)
    rw [List.take_length] at hS
    exact wpAny_pure (hR s' (hm.mono sub) (hS.at fun o e => hm.heap a o hSw e))
  | succ k ih =>
    intro i s hk hi st hS hR
    have hlt : i < ns.length := by omega
    refine codeAny_builtin fill_entry ?_
    rw [Around.under_plainId fill_plain _]
    show wpAny _ A.in1 (pyNext (.ref I) >>= _) _ _ s
    refine wpAny_bind (W.item i s _ _ hlt st fun v s' hv st' hm => ?_)
    obtain ⟨t, rfl⟩ := hP i v hv
    show wpAny _ A.in1 (holding [Value.int (ns.getD i 0) t] (setAdd a (.int (ns.getD i 0) t)) >>= _) _ _ s'
    refine wpAny_bind (wpAny_holding ?_)
    unfold setAdd
    refine wpAny_holding (wpAny_bind ((PySem.intKind prog w).pyHash (k := ns.getD i 0) (int_is _ _) ?_))
    have hl : (uniq (ns.take i)).length + 1 < scanBound := by
      have q := (uniq_facts (ns.take i)).2.2
      rw [List.length_take] at q
      omega
    refine add_neat (s := { s' with toks := s'.toks + 1 }) (hS.at fun o e => hm.heap a o hSw e) hl fun b h' hsb hS2 => ?_
    rw [← uniq_take hlt] at hS2
    refine wpAny_pure ⟨plainId_quiet fill_plain _, ih (i + 1) _ (by omega) hlt (W.frame _ s' _ _ st' (Nat.le_succ _) fun b hb o e => ?_) hS2 fun s'' hm2 hS3 => ?_⟩
    · rw [hsb.2 b (fun z : b = a => hSf (z ▸ hb))]
      exact e
    · refine hR s'' (Moved.trans W.gtrans ((hm.mono sub).then_heap (Nat.le_succ _) fun b o hb e => ?_) hm2) hS3
      rw [hsb.2 b (fun z : b = a => hb (by rw [z]; exact List.mem_cons_self ..))]
      exact e
theorem set_made (x : Value) {Q₁ : Value → Shared → Prop}
    (h : Q₁ (.ref s.heap.objs.size) { s with heap := s.heap.push { cls := .type "set", dict := none, data := .set #[] 0 (.fresh 0 0 (!byText w)) } }) :
    codeAny (model prog w) A (.call (.builtin "set.__new__") ⟨[.type "set", x], []⟩) (wants Q₁ E) s := by
  refine codeAny_of_tree ?_
  show wpAny _ A.in1 (do checkBuiltinCall "set.__new__" ⟨[.type "set", x], []⟩; again (.builtin "set.__new__" ⟨[.type "set", x], []⟩)) _ _ s
  refine wpAny_bind (wpAny_of_eq (F.newCall_set_1 x) (wpAny_pure ⟨plainId_quiet F.plain_set_new _, codeAny_builtin F.entry_set_new ?_⟩))
  rw [Around.under_plainId F.plain_set_new _]
  unfold Builtin.«set.__new__» Builtin.Frozenset.newClass
  have hsub := sub_set_self
  obtain ⟨hp, g, d, tk, os⟩ := s
  dsimp only
  wp_walk
  refine wpAny_askSetting (wpAny_pure ?_)
  dsimp only
  simp only [newObj]
  refine wpAny_bind (wpAny_alloc (wpAny_pure ?_))
  exact wpAny_pure h
set_option maxHeartbeats 3200000 in
/-- set(xs) of a list of whole numbers -/
theorem set_called {l : Addr} {items : Array Value} {ns : List Int} {Q : Value → Shared → Prop} (hh : A.handled = none) (hl : s.heap.IsList l items) (hi : IntsAre items.toList ns) (hb : ns.length + 1 < scanBound)
    (h : ∀ (h' : Heap) (tk : Nat), SetN prog w h' s.heap.objs.size (uniq ns) → (∀ b o, s.heap.get? b = some o → h'.get? b = some o) → Q (.ref s.heap.objs.size) { s with heap := h', toks := tk }) :
    wpAny (model prog w) A (call (.type "set") [.ref l]) Q E s := by
  obtain ⟨c, tl, hmro⟩ := F.called_set.mro
  have hmade := F.called_set.made
  have hsub := F.called_set.sub
  refine wpAny_call (codeAny_of_tree ?_)
  show wpAny _ _ (callAny (.type "set") _) _ _ _
  refine wpAny_pure ⟨Code.quiet_builtin _ (by decide +kernel), codeAny_builtin F.entry_type_call ?_⟩
  rw [Around.under_plain (weight_type_call_type "set" [.ref l] []) rfl]
  have h1 := F.called_set.notType
  have h2 := F.called_set.canCreate
  have hct := F.typeCall_set_1 (.ref l)
  repeat (any_goals (first | assumption | wp_step))
  have hN : (s.heap.push { cls := .type "set", dict := none, data := .set #[] 0 (.fresh 0 0 (!byText w)) }).get? s.heap.objs.size = some { cls := .type "set", dict := none, data := .set #[] 0 (.fresh 0 0 (!byText w)) } := Heap.get?_push_size _ rfl
  have hT : Shared.TypeIs { s with heap := s.heap.push { cls := .type "set", dict := none, data := .set #[] 0 (.fresh 0 0 (!byText w)) } } (.ref s.heap.objs.size) "set" := ⟨_, hN, rfl⟩
  refine codeAny_mono (set_made (.ref l) (E := E) (Q₁ := fun obj s₁ => obj = .ref s.heap.objs.size ∧ s₁ = { s with heap := s.heap.push { cls := .type "set", dict := none, data := .set #[] 0 (.fresh 0 0 (!byText w)) } }) ⟨rfl, rfl⟩) fun r s₁ hr => ?_
  cases r with
  | error e => exact hr
  | ok fl =>
    cases fl with
    | ret obj =>
      obtain ⟨rfl, rfl⟩ := hr
      have hli := F.called_set.init.lookup
      have hbi := F.called_set.init.bind (.ref s.heap.objs.size)
      repeat (any_goals (first | assumption | wp_step))
      refine codeAny_mono (codeAny_call_builtin (R := wants (fun r s₂ => r = .none ∧ ∃ h' tk, s₂ = { s with heap := h', toks := tk } ∧ SetN prog w h' s.heap.objs.size (uniq ns) ∧ (∀ b o, s.heap.get? b = some o → h'.get? b = some o)) E) F.called_set.init.plain F.entry_set_init (check_set_init_1 hT ?_)) fun r₂ s₂ hr₂ => ?_
      · have hl1 : (s.heap.push { cls := .type "set", dict := none, data := .set #[] 0 (.fresh 0 0 (!byText w)) }).IsList l items := hl.push _
        have hlS : l < s.heap.objs.size := by
          obtain ⟨ol, hol, _⟩ := hl
          exact Heap.lt_size hol
        obtain ⟨ol, hol, hcl, nl, hdl⟩ := id hl1
        obtain ⟨ocls, odict, odata, oslots⟩ := ol
        simp only at hcl hdl
        subst hcl; subst hdl
        have hsls := F.sub_list_set
        have hslf := F.sub_list_frozenset
        have hne : (Value.type "list" == Value.type "dict") = false := by decide
        unfold Builtin.«set.__init__» noKeywords Builtin.Frozenset.updateFrom
        generalize hPI : pyIter = PI
        wp_walk
        subst hPI
        refine wpAny_pyIter_list hl1 ?_
        refine wpAny_bind (wpAny_runValue ?_)
        have hneI : l ≠ (s.heap.push { cls := .type "set", dict := none, data := .set #[] 0 (.fresh 0 0 (!byText w)) }).objs.size := by
          rw [Heap.size_push]; exact Nat.ne_of_lt (Nat.lt_succ_of_lt hlS)
        have hSf : s.heap.objs.size ∉ [(s.heap.push { cls := .type "set", dict := none, data := .set #[] 0 (.fresh 0 0 (!byText w)) }).objs.size, l] := by
          rw [Heap.size_push]
          simp only [List.mem_cons, List.mem_singleton, List.not_mem_nil, or_false, not_or]
          exact ⟨Nat.ne_of_lt (Nat.lt_succ_self _), Nat.ne_of_gt hlS⟩
        have hz : items.size = ns.length := by
          have e := hi.length
          rw [Array.length_toList] at e
          exact e
        have W := (Walks.list (prog := prog) (w := w) (A := A.in1.in1.in1) (by simp [hh]) _ l hneI items).toS
        rw [hz] at W
        refine fill_loop (a := s.heap.objs.size) W hSf (fun i v hv => IntsAre.int_at hi i v (by rw [Array.getElem?_toList]; exact hv)) hb (ns.length - 0) 0 _ rfl (Nat.zero_le _) ⟨⟨_, Heap.get?_push_size _ rfl, rfl, rfl⟩, hl1.push _⟩ ?hS0 ?hR
        case hS0 =>
          exact ⟨_, #[], 0, _, [], Heap.get?_push_of_some _ hN, ⟨rfl, rfl, rfl⟩, rfl, (fun e he => by simp at he), .nil, .refl _, by decide, rfl, neat_fresh _⟩
        case hR =>
          intro s' hm hS'
          rw [moved_is hm]
          show wpAny _ _ _ _ _ _
          refine wpAny_pure ?_
          show wpAny _ _ (ret Value.none) _ _ _
          refine wpAny_pure ⟨rfl, s'.heap, s'.toks, rfl, hS', fun b o e => ?_⟩
          have hb := Heap.lt_size e
          refine hm.heap b o ?_ (Heap.get?_push_of_some _ (Heap.get?_push_of_some _ e))
          rw [Heap.size_push]
          simp only [List.mem_cons, List.mem_singleton, List.not_mem_nil, or_false, not_or]
          exact ⟨Nat.ne_of_lt hb, Nat.ne_of_lt (Nat.lt_succ_of_lt hb)⟩
      · cases r₂ with
        | error e => exact hr₂
        | ok fl₂ =>
          cases fl₂ with
          | ret r =>
            obtain ⟨rfl, h', tk, rfl, hS', hk'⟩ := hr₂
            repeat (any_goals (first | assumption | wp_step))
            exact h _ _ hS' hk'
          | _ => exact hr₂.elim
    | _ => exact hr.elim
end
end LD
namespace LD
open PySem PySem.Spec PyProof.Rows L2
section
variable {prog : Program} {w : World} {A : Around} {E : Value → Shared → Prop} {s : Shared} {a : Addr}
/-- sorted(s) of a set of whole numbers -/
theorem sorted_set {ns : List Int} {Q : Value → Shared → Prop} (S : SetN prog w s.heap a ns) (hh : A.handled = none) (hz : ns.length ≤ sizeLine)
    (h : ∀ (h' : Heap) (d : Drawn) (tk : Nat) (p : Addr) (out : Array Value) (ms : List Int) (c : Nat), s.heap.objs.size ≤ p → (∀ b o, s.heap.get? b = some o → h'.get? b = some o) → h'.get? p = some (seqObj "list" out c) → IntsAre out.toList ms → ms.Perm ns → ms.Pairwise (· ≤ ·) →
      Q (.ref p) { s with heap := h', drawn := d, toks := tk }) :
    wpAny (model prog w) A (call (.builtin "sorted") [.ref a]) Q E s := by
  refine Calls.call_function_entry kind_sorted plain_sorted entry_sorted (args_sorted1 _) ?_
  unfold Builtin.«sorted»
  refine wpAny_bind (m := checkCount "sorted" 1 1 _) (wpAny_pure ?_)
  refine wpAny_bind (collect_set (A := A.in1) S hh hz fun h1 d tk vs ms hk hsz m1 m2 => ?_)
  have hl : vs.length ≤ sizeLine := by rw [m1.length, m2.length_eq]; exact hz
  refine wpAny_bind (wpAny_newList ?_ hl)
  have hoL : (h1.push (seqObj "list" vs.toArray 0)).get? h1.objs.size = some (seqObj "list" vs.toArray 0) := Heap.get?_push_size _ rfl
  show wpAny _ _ _ _ _ { s with heap := h1.push (seqObj "list" vs.toArray 0), drawn := d, toks := tk }
  refine wpAny_bind (wpAny_holding (wpAny_call_entry slot_list_sort ⟨_, hoL, rfl⟩ entry_list_sort (list_sort_treeAny hoL m1 hl fun out ms' a1 a2 a3 => ⟨_, rfl, ?_⟩) (args_list_sort _)))
  obtain ⟨c, hc⟩ := sortedHeap_at (out := out) hoL
  refine wpAny_pure ⟨_, rfl, h _ d tk _ out ms' c (Nat.le_of_lt hsz) (fun b o e => ?_) hc a1 (a2.trans m2) a3⟩
  have hb := Heap.lt_size (hk b o e)
  rw [sortedHeap_old (Nat.ne_of_lt hb) (by rw [Heap.size_push]; exact Nat.lt_succ_of_lt hb)]
  exact Heap.get?_push_of_some _ (hk b o e)
end
theorem drew {X : Cx} {pins : List (Addr × Obj)} {σ : L2.St} {H : Hp} {s : Shared} (I : Inv X pins σ H s) (d : Drawn) : Inv X pins σ H { s with drawn := d } := ⟨I.ok, I.os, I.bare, I.base, I.loc, I.cell, I.free, I.freeC, I.pin, I.hok, I.len⟩
section
variable {X : Cx} {K : PySem.W.Frag} {P : Program} {w : World}
/-- set(xs), whole numbers -/
def setO (P : Program) (w : World) (p : Addr) (ns : List Int) : HO := .ext fun h => SetN P w h p ns
def rSetI (P : Program) (w : World) (K : PySem.W.Frag) : List V → Hp → VK → Prop := fun vs H Q => ∃ (a : Addr) (ns : List Int), vs = [V.ref a] ∧ SqL K H a (ns.map V.int) ∧ ns.length ≤ 4000 ∧ ∀ p, H p = none → Q (.ref p) (upd H p (setO P w p (uniq ns)))
theorem call_setI (hP : X.prog = P) (hw : X.w = w) (h : X.K = K) (hc : X.calm = true) : CallR X (.type "set") (rSetI P w K) := by
  subst hP hw h
  intro pins s σ H vs us Q I r h
  obtain ⟨a, ns, rfl, hs, hn, q⟩ := h
  obtain ⟨its, rv, hl, hz⟩ := I.list hs
  rw [Vals.ref1 r]
  refine set_called (I.ok.hd hc) hl.isList (by simpa using rv.ints) (by show ns.length + 1 < 4096; omega) fun h' tk hS hk => ?_
  refine ⟨.ref _, _, I.laid (a := s.heap.objs.size) (o := setO X.prog X.w s.heap.objs.size (uniq ns)) (t' := tk) hk (Nat.le_refl _) ⟨hS, ?_, fun h1 h2 z k => z.at k⟩, rfl, q _ (I.hok.fresh (Nat.le_refl _))⟩
  obtain ⟨o, _, _, _, _, ho, _⟩ := hS
  exact ⟨o, ho⟩
/-- sorted(s) of such a set -/
def rSortedS (P : Program) (w : World) : List V → Hp → VK → Prop := fun vs H Q => ∃ (a : Addr) (ns : List Int), vs = [V.ref a] ∧ H a = some (setO P w a ns) ∧ ns.length ≤ 4000 ∧
  ∀ (ms : List Int) (p : Addr), ms.Perm ns → ms.Pairwise (· ≤ ·) → H p = none → Q (.ref p) (upd H p (.lst (ms.map V.int)))
theorem call_sortedS (hP : X.prog = P) (hw : X.w = w) (hc : X.calm = true) : CallR X (.builtin "sorted") (rSortedS P w) := by
  subst hP hw
  intro pins s σ H vs us Q I r h
  obtain ⟨a, ns, rfl, hs, hn, q⟩ := h
  rw [Vals.ref1 r]
  have hS : SetN X.prog X.w s.heap a ns := (show ObjOk X.prog X.w H s.heap a (setO X.prog X.w a ns) from I.hok a _ hs).1
  have hl : sizeLine = 16777216 := by decide
  refine sorted_set hS (I.ok.hd hc) (by omega) fun h' d tk p out ms c hp hk hc' m1 m2 m3 => ?_
  have hlen : (ms.map V.int).length ≤ sizeLine := by rw [List.length_map, m2.length_eq]; omega
  exact ⟨.ref p, upd H p (.lst (ms.map V.int)), drew (I.laid (t' := tk) hk hp (show ObjOk X.prog X.w _ h' p (.lst (ms.map V.int)) from ⟨hlen, out.toList, c, vals_of_ints m1, hc'⟩)) d, rfl, q ms p m2 m3 (I.hok.fresh hp)⟩
end
end LD
namespace LD
open PySem PySem.Spec PyProof.Rows L2
/-! promises of stages 4 and 5 -/
def spRow (K : PySem.W.Frag) : Sp := fun vs H Q _ => ∃ (t n : Int) (a : Addr) (l : List Int), vs = [.int t, .int n, .ref a] ∧ SqL K H a (l.map V.int) ∧ IsBytes l ∧ 0 ≤ t ∧ 0 ≤ n ∧ Gives H Q (PyWqaecd.row t n l)
def spTicks (K : PySem.W.Frag) : Sp := fun vs H Q _ => ∃ (p : Addr) (ps : List Addr) (pts : List (Nat × Nat)), vs = [.ref p] ∧ PtsAt H p ps pts ∧ pts.length ≤ 1000 ∧ Gives H Q (pts.map fun q => (q.1 : Int))
def spLT (K : PySem.W.Frag) : Sp := fun vs H Q _ => ∃ (a : Addr) (ns : List Int), vs = [.ref a] ∧ SqL K H a (ns.map V.int) ∧ ns.length ≤ 4000 ∧ ∀ S : List Nat, TicksOf ns S → S.length ≤ 4000 → Gives H Q (S.map fun (t : Nat) => (t : Int))
def spFew (K : PySem.W.Frag) : Sp := fun vs H Q _ => ∃ (p : Addr) (ps : List Addr) (x : Nat × Nat) (l : List (Nat × Nat)), vs = [.ref p] ∧ PtsAt H p ps (x :: l) ∧ (x :: l).length ≤ 5000 ∧
  ∀ (H' : Hp) (q : Addr) (qs : List Addr), H q = none → Same H H' → PtsAt H' q qs (x :: thin x.2 l) → Q (.ref q) H'
def spLow : Sp := fun vs H Q _ => ∃ (n k : Nat), vs = [.int (n : Int), .int (k : Int)] ∧ k ≤ 8 ∧ Gives H Q (lows n k)
def spBytes (K : PySem.W.Frag) : Sp := fun vs H Q _ => ∃ (p : Addr) (ps : List Addr) (x : Nat × Nat) (l : List (Nat × Nat)), vs = [.ref p] ∧ PtsAt H p ps (x :: l) ∧ l.length ≤ 64 ∧ Gives H Q (laneUp x.2 l.length l)
def spBA : Sp := fun vs H Q _ => ∃ (a : Addr) (ts : List Int), vs = [.ref a] ∧ H a = some (.lst (ts.map V.int)) ∧ ts.length ≤ 100000 ∧ Gives H Q ((ts.length : Int) :: (ts.length : Int) :: (ts ++ [0]))
def spLA (K : PySem.W.Frag) : Sp := fun vs H Q _ => ∃ (p : Addr) (ps : List Addr) (x : Nat × Nat) (l : List (Nat × Nat)), vs = [.ref p] ∧ PtsAt H p ps (x :: l) ∧ (x :: l).length ≤ 5000 ∧ Gives H Q (laneTold ⟨x.2, thin x.2 l⟩)
def spSpan (K : PySem.W.Frag) : Sp := fun vs H Q _ => ∃ (f n : Int) (a : Addr) (l : List Int), vs = [.int f, .int n, .ref a] ∧ SqL K H a (l.map V.int) ∧ IsBytes l ∧
  (1024 < l.length → Gives H Q [-2, 0, 0]) ∧ (¬ 1024 < l.length → (∀ e : Nat × Nat, laneFault l = some e → Gives H Q [-6, 0, 2, (e.1 : Int), (e.2 : Int)]) ∧ (laneFault l = none → (16777216 < f + n → Gives H Q [-1, 0, 0]) ∧ (f + n ≤ 16777216 → Q .non H)))
def spCut (K : PySem.W.Frag) : Sp := fun vs H Q _ => ∃ (f n : Int) (a : Addr) (l : List Int), vs = [.int f, .int n, .ref a] ∧ SqL K H a (l.map V.int) ∧ IsBytes l ∧ 0 ≤ f ∧ 0 ≤ n ∧ Gives H Q (PyWqaecd.cut f n l)
def spOpen (K : PySem.W.Frag) : Sp := fun vs H Q _ => ∃ (f n : Int) (a : Addr) (l : List Int), vs = [.int f, .int n, .ref a] ∧ SqL K H a (l.map V.int) ∧ IsBytes l ∧ 0 ≤ f ∧ 0 ≤ n ∧ Gives H Q (PyWqaecd.open_of f n l)
def spPR (K : PySem.W.Frag) : Sp := fun vs H Q _ => ∃ (f n t : Int) (a b : Addr) (l k : List Int), vs = [.int f, .int n, .int t, .ref a, .ref b] ∧ SqL K H a (l.map V.int) ∧ SqL K H b (k.map V.int) ∧ IsBytes l ∧ IsBytes k ∧
  (1024 < l.length ∨ 1024 < k.length → Gives H Q [-2, 0, 0]) ∧ (¬ (1024 < l.length ∨ 1024 < k.length) → (∀ e : Nat × Nat, laneFault l = some e → Gives H Q [-6, 0, 2, (e.1 : Int), (e.2 : Int)]) ∧ (laneFault l = none →
    (∀ e : Nat × Nat, laneFault k = some e → Gives H Q [-6, 0, 2, ((e.1 + 16 : Nat) : Int), (e.2 : Int)]) ∧ (laneFault k = none → (16777216 < f + n ∨ 16777216 < t + n → Gives H Q [-1, 0, 0]) ∧ (f + n ≤ 16777216 → t + n ≤ 16777216 → Q .non H))))
def spPaste (K : PySem.W.Frag) : Sp := fun vs H Q _ => ∃ (f n t : Int) (a b : Addr) (l k : List Int), vs = [.int f, .int n, .int t, .ref a, .ref b] ∧ SqL K H a (l.map V.int) ∧ SqL K H b (k.map V.int) ∧ IsBytes l ∧ IsBytes k ∧ (0 ≤ f ∧ 0 ≤ n ∧ 0 ≤ t) ∧ Gives H Q (PyWqaecd.paste f n t l k)
def spAE (K : PySem.W.Frag) : Sp := fun vs H Q _ => ∃ (a b : Int) (p : Addr) (e : List Int), vs = [.int a, .int b, .ref p] ∧ SqL K H p (e.map V.int) ∧ IsNats e ∧ e.length ≤ 600 ∧ 0 ≤ a ∧ 0 ≤ b ∧ Q (.bl (evOk a.toNat b.toNat e)) H
def spET (K : PySem.W.Frag) : Sp := fun vs H Q _ => ∃ (back k : Nat) (p : Addr) (e : List Int), vs = [.int (back : Int), .ref p] ∧ SqL K H p (e.map V.int) ∧ e.length = 3 * k ∧ k ≤ 64 ∧ back ≤ 16 ∧ Gives H Q (evTicks e back k)
def spPassR (K : PySem.W.Frag) : Sp := fun vs H Q _ => ∃ (a b m g : Int) (p q : Addr) (l e : List Int), vs = [.int a, .int b, .int m, .int g, .ref p, .ref q] ∧ SqL K H p (l.map V.int) ∧ SqL K H q (e.map V.int) ∧ IsBytes l ∧ IsNats e ∧ e.length ≤ 600 ∧ (0 ≤ a ∧ 0 ≤ b) ∧
  (192 < e.length ∨ 1024 < l.length → Gives H Q [-2, 0, 0]) ∧ (¬ 192 < e.length → ¬ 1024 < l.length → (∀ z : Nat × Nat, laneFault l = some z → Gives H Q [-6, 0, 2, (z.1 : Int), (z.2 : Int)]) ∧
    (laneFault l = none → (fineI a b m g e = false → Gives H Q [-1, 0, 0]) ∧ (fineI a b m g e = true → Q .non H)))
def spPass (K : PySem.W.Frag) : Sp := fun vs H Q _ => ∃ (a b m g v : Int) (p q : Addr) (l e : List Int), vs = [.int a, .int b, .int m, .int g, .int v, .ref p, .ref q] ∧ SqL K H p (l.map V.int) ∧ SqL K H q (e.map V.int) ∧ IsBytes l ∧ IsNats e ∧ e.length ≤ 600 ∧ (0 ≤ a ∧ 0 ≤ b ∧ 0 ≤ m ∧ 0 ≤ g ∧ 0 ≤ v) ∧ Gives H Q (PyWqaecd.pass_of a b m g v l e)
def spHeard (K : PySem.W.Frag) : Sp := fun vs H Q _ => ∃ (a b m g v t : Int) (p q : Addr) (l e : List Int), vs = [.int a, .int b, .int m, .int g, .int v, .int t, .ref p, .ref q] ∧ SqL K H p (l.map V.int) ∧ SqL K H q (e.map V.int) ∧ IsBytes l ∧ IsNats e ∧ e.length ≤ 600 ∧ (0 ≤ a ∧ 0 ≤ b ∧ 0 ≤ m ∧ 0 ≤ g ∧ 0 ≤ v ∧ 0 ≤ t) ∧ Gives H Q (PyWqaecd.heard a b m g v t l e)
/-! the fader as an object -/
structure Txt (K : PySem.W.Frag) (C : Addr) : Prop where
  cl : Cls K C
  nL : NoAttr K C "level"
  nW : NoAttr K C "was_touched"
  nI : NoAttr K C "is_held"
  nG : NoAttr K C "let_go"
def goV : Option Nat → V
  | none => .non
  | some r => .int (r : Int)
theorem f_lw : ¬ (("level" : Str) = "was_touched") := by decide +kernel
theorem f_li : ¬ (("level" : Str) = "is_held") := by decide +kernel
theorem f_lg : ¬ (("level" : Str) = "let_go") := by decide +kernel
theorem f_wi : ¬ (("was_touched" : Str) = "is_held") := by decide +kernel
theorem f_wg : ¬ (("was_touched" : Str) = "let_go") := by decide +kernel
theorem f_ig : ¬ (("is_held" : Str) = "let_go") := by decide +kernel
theorem f_tl : ¬ (("take" : Str) = "level") := by decide +kernel
theorem f_tw : ¬ (("take" : Str) = "was_touched") := by decide +kernel
theorem f_ti : ¬ (("take" : Str) = "is_held") := by decide +kernel
theorem f_tg : ¬ (("take" : Str) = "let_go") := by decide +kernel
def flds (l : Int) (b c : Bool) (g : V) : List (Str × V) := [("level", .int l), ("was_touched", .bl b), ("is_held", .bl c), ("let_go", g)]
theorem flds_made (l : Int) (b c : Bool) (g : V) : putF "let_go" g (putF "is_held" (.bl c) (putF "was_touched" (.bl b) (putF "level" (.int l) []))) = flds l b c g := by
  simp only [putF, if_neg f_lw, if_neg f_li, if_neg f_lg, if_neg f_wi, if_neg f_wg, if_neg f_ig, flds]
theorem put_level (l z : Int) (b c : Bool) (g : V) : putF "level" (.int z) (flds l b c g) = flds z b c g := by
  simp only [putF, flds, if_true]
theorem put_was (l : Int) (b z c : Bool) (g : V) : putF "was_touched" (.bl z) (flds l b c g) = flds l z c g := by
  simp only [putF, flds, if_neg f_lw, if_true]
theorem put_is (l : Int) (b c z : Bool) (g : V) : putF "is_held" (.bl z) (flds l b c g) = flds l b z g := by
  simp only [putF, flds, if_neg f_li, if_neg f_wi, if_true]
theorem put_go (l : Int) (b c : Bool) (g z : V) : putF "let_go" z (flds l b c g) = flds l b c z := by
  simp only [putF, flds, if_neg f_lg, if_neg f_wg, if_neg f_ig, if_true]
theorem look_level (l : Int) (b c : Bool) (g : V) : (flds l b c g).lookup ("level" : Str) = some (.int l) := by
  rw [← flds_made, lookup_putF, if_neg f_lg, lookup_putF, if_neg f_li, lookup_putF, if_neg f_lw, lookup_putF, if_pos rfl]
theorem look_was (l : Int) (b c : Bool) (g : V) : (flds l b c g).lookup ("was_touched" : Str) = some (.bl b) := by
  rw [← flds_made, lookup_putF, if_neg f_wg, lookup_putF, if_neg f_wi, lookup_putF, if_pos rfl]
theorem look_is (l : Int) (b c : Bool) (g : V) : (flds l b c g).lookup ("is_held" : Str) = some (.bl c) := by
  rw [← flds_made, lookup_putF, if_neg f_ig, lookup_putF, if_pos rfl]
theorem look_go (l : Int) (b c : Bool) (g : V) : (flds l b c g).lookup ("let_go" : Str) = some g := by
  rw [← flds_made, lookup_putF, if_pos rfl]
theorem look_take (l : Int) (b c : Bool) (g : V) : (flds l b c g).lookup ("take" : Str) = none := by
  rw [← flds_made, lookup_putF, if_neg f_tg, lookup_putF, if_neg f_ti, lookup_putF, if_neg f_tw, lookup_putF, if_neg f_tl]
  rfl
def FdAt (C : Addr) (H : Hp) (p : Addr) (x : Fd) : Prop := ∃ dx, H p = some (.ins C dx (flds (x.level : Int) x.was x.is (goV x.go)))
def spInit (C : Addr) : Sp := fun vs H Q _ => ∃ (p dx : Addr) (g : Nat), vs = [.ref p, .int (g : Int)] ∧ H p = some (.ins C dx []) ∧ ∀ H' : Hp, FdAt C H' p ⟨min g 65535, false, false, none⟩ → (∀ b o, H b = some o → b ≠ p → H' b = some o) → Q .non H'
def spTake (C : Addr) : Sp := fun vs H Q _ => ∃ (p : Addr) (x : Fd) (t a g : Nat), vs = [.ref p, .int (t : Int), .int (a : Int), .int (g : Int)] ∧ FdAt C H p x ∧ ∀ H' : Hp, FdAt C H' p (x.take t a g) → (∀ b o, H b = some o → b ≠ p → H' b = some o) → Q .non H'
def spFA (K : PySem.W.Frag) (C : Addr) : Sp := fun vs H Q _ => ∃ (t g k : Nat) (p : Addr) (e : List Int), vs = [.int (t : Int), .int (g : Int), .ref p] ∧ SqL K H p (e.map V.int) ∧ IsNats e ∧ e.length = 3 * k ∧ k ≤ 64 ∧
  ∀ (H' : Hp) (x : Addr), Same H H' → H x = none → FdAt C H' x (fdAt t g e k) → Q (.ref x) H'
def spTG (C : Addr) : Sp := fun vs H Q _ => ∃ (back t old : Nat) (p : Addr) (x : Fd), vs = [.int (back : Int), .int (t : Int), .int (old : Int), .ref p] ∧ FdAt C H p x ∧ x.level ≤ 65535 ∧ (∀ r, x.go = some r → r ≤ t) ∧ old ≤ 65535 ∧ back ≤ 16 ∧ Q (.int (touchI back t old x)) H
def spGH (K : PySem.W.Frag) (C : Addr) : Sp := fun vs H Q _ => ∃ (m back g t old k : Nat) (p : Addr) (e : List Int), vs = [.int (m : Int), .int (back : Int), .int (g : Int), .ref p, .int (t : Int), .int (old : Int)] ∧ SqL K H p (e.map V.int) ∧ IsNats e ∧ e.length = 3 * k ∧ k ≤ 64 ∧ whatsOk e k = true ∧ back ≤ 16 ∧ old ≤ 65535 ∧
  ∀ H' : Hp, Same H H' → Q (.int (heardI m back t old (fdAt t g e k))) H'
/-! lists -/
theorem lcp0 {α : Type} {K : PySem.W.Frag} {a : Addr} {xs : List V} {ds : List α} {g : TG} {te : TE} {vs : List Nat} {σ : L2.St} {H1 : Hp} {D : Addr} {Qd : Hp → Prop} (f : α → V) (hn : ds.length ≤ 1000000) (hl : xs.length = ds.length) (hS : SqL K H1 a xs) (hD : H1 D = none)
    (hs : ∀ (i : Nat) x d H, xs[i]? = some x → ds[i]? = some d → Same H1 H → ∀ (R : V → Hp → Prop), (∀ H4, Same H H4 → R (f d) H4) → g x (wipe σ vs) H fun σ2 H2 => wipe σ2 vs = wipe σ vs ∧ te σ2 H2 R)
    (hd : ∀ H, Same H1 H → H D = some (.lst (ds.map f)) → Qd H) :
    ∃ W : Nat → Nat → Hp → Prop, (∃ m, W 0 m (upd H1 D (.lst []))) ∧ ∀ i m H, W i m H →
      ((Itl K a).stop i H ∧ Qd H) ∨ ((Itl K a).go i H ∧ ∃ Nx : Hp → Prop, (∀ H', Nx H' → ∃ m', m' < m ∧ W (i + 1) m' H') ∧ ∀ x H', (Itl K a).yld i H x H' → g x (wipe σ vs) H' fun σ2 H2 => wipe σ2 vs = wipe σ vs ∧ tYes σ2 H2 fun b H3 =>
        if b = true then te σ2 H3 fun y H4 => ∃ acc, H4 D = some (.lst acc) ∧ acc.length < sizeLine ∧ Nx (upd H4 D (.lst (acc ++ [y]))) else Nx H3) := by
  refine lcp (tt := tYes) (fun _ => true) f hn hl hS hD ?_ fun H s h => hd H s (by rw [h, List.filter_eq_self.mpr fun _ _ => rfl])
  intro i x d H hx hdd s1 R N h1 h2
  have e : (fun (σ2 : L2.St) (H2 : Hp) => wipe σ2 vs = wipe σ vs ∧ tYes σ2 H2 fun b H3 => if b = true then te σ2 H3 R else N H3) = fun σ2 H2 => wipe σ2 vs = wipe σ vs ∧ te σ2 H2 R := by
    funext σ2 H2
    show (wipe σ2 vs = wipe σ vs ∧ if true = true then te σ2 H2 R else N H2) = _
    rw [if_pos rfl]
  rw [e]
  exact hs i x d H hx hdd s1 R (h1 rfl)
def isTick (n : Int) : Bool := decide (0 ≤ n) && decide (n ≤ 16777215)
theorem ticks_sorted {ns ms : List Int} (hp : ms.Perm (uniq ns)) (hs : ms.Pairwise (· ≤ ·)) : ∃ S : List Nat, ms.filter isTick = S.map (fun (t : Nat) => (t : Int)) ∧ TicksOf ns S ∧ S.length ≤ ns.length := by
  obtain ⟨u1, u2, u3⟩ := uniq_facts ns
  have hnd : ms.Nodup := hp.nodup_iff.mpr u1
  have hst : ms.Pairwise (· < ·) := (hs.and hnd).imp fun ⟨a, b⟩ => by omega
  have h0 : ∀ n ∈ ms.filter isTick, 0 ≤ n ∧ n ≤ 16777215 := fun n hn => by
    have q := (List.mem_filter.mp hn).2
    unfold isTick at q
    rw [Bool.and_eq_true, decide_eq_true_eq, decide_eq_true_eq] at q
    exact q
  have e : ((ms.filter isTick).map Int.toNat).map (fun (t : Nat) => (t : Int)) = ms.filter isTick := by
    rw [List.map_map]
    refine (List.map_congr_left fun n hn => ?_).trans (List.map_id _)
    exact Int.toNat_of_nonneg (h0 n hn).1
  refine ⟨(ms.filter isTick).map Int.toNat, e.symm, ⟨?_, fun t => ?_⟩, ?_⟩
  · have q := hst.filter isTick
    rw [← e, List.pairwise_map] at q
    exact q.imp fun h => by omega
  · constructor
    · intro ht
      obtain ⟨n, hn, rfl⟩ := List.mem_map.mp ht
      have q := h0 n hn
      refine ⟨?_, by omega⟩
      rw [Int.toNat_of_nonneg q.1]
      exact (u2 n).mp (hp.mem_iff.mp (List.mem_filter.mp hn).1)
    · rintro ⟨h1, h2⟩
      refine List.mem_map.mpr ⟨(t : Int), List.mem_filter.mpr ⟨hp.mem_iff.mpr ((u2 _).mpr h1), ?_⟩, rfl⟩
      unfold isTick
      rw [Bool.and_eq_true, decide_eq_true_eq, decide_eq_true_eq]
      omega
  · rw [List.length_map]
    exact Nat.le_trans (List.length_filter_le _ _) (by rw [hp.length_eq]; exact u3)
theorem cut_one (xs : List V) : cutV xs (some 1) none = xs.drop 1 := by
  unfold cutV
  rw [show HT.sIx xs.length 0 (some 1) = min 1 xs.length from HT.sIx_nat xs.length 0 1, HT.sIx_none]
  cases xs with
  | nil => rfl
  | cons x r =>
    rw [show min 1 (x :: r).length = 1 by rw [List.length_cons]; omega]
    exact List.take_of_length_le (by rw [List.length_drop]; exact Nat.le_refl _)
theorem PtsAt.tail {H : Hp} {p : Addr} {ps : List Addr} {x : Nat × Nat} {l : List (Nat × Nat)} (h : PtsAt H p ps (x :: l)) {i : Nat} {v : V} (hi : ((ps.map V.ref).drop 1)[i]? = some v) : ∃ (b : Addr) (q : Nat × Nat), l[i]? = some q ∧ v = V.ref b ∧ H b = some (.tup [.int (q.1 : Int), .int (q.2 : Int)]) := by
  rw [List.getElem?_drop, List.getElem?_map] at hi
  cases e : ps[1 + i]? with
  | none =>
    rw [e] at hi
    cases hi
  | some b =>
    rw [e] at hi
    have hl : 1 + i < (x :: l).length := by rw [← h.2.1]; exact (List.getElem?_eq_some_iff.mp e).1
    rw [List.length_cons] at hl
    have e2 : l[i]? = some l[i] := List.getElem?_eq_getElem (by omega)
    refine ⟨b, l[i], e2, (Option.some.inj hi).symm, h.2.2 (1 + i) _ b ?_ e⟩
    rw [Nat.add_comm 1 i, List.getElem?_cons_succ, e2]
theorem PtsAt.len {H : Hp} {p : Addr} {ps : List Addr} {x : Nat × Nat} {l : List (Nat × Nat)} (h : PtsAt H p ps (x :: l)) : (ps.map V.ref).length = l.length + 1 := by rw [List.length_map, h.2.1, List.length_cons]
theorem ticks0_len (l : List Int) : (ticks0 (laneOf l)).length = b2 l 2 + 1 := by
  show (0 :: ((ptsAt l 4 (b2 l 2)).map fun (q : Nat × Nat) => q.1).map fun (t : Nat) => (t : Int)).length = _
  rw [List.length_cons, List.length_map, List.length_map, ptsAt_length]
theorem ticks0_pts (l : List Int) : (((0, b2 l 0) :: ptsAt l 4 (b2 l 2)).map fun (q : Nat × Nat) => (q.1 : Int)) = ticks0 (laneOf l) := by
  show (0 : Int) :: _ = (0 : Int) :: _
  congr 1
  show _ = ((ptsAt l 4 (b2 l 2)).map fun (q : Nat × Nat) => q.1).map fun (t : Nat) => (t : Int)
  rw [List.map_map]
  rfl
/-! turns, one after another -/
def Turns (Hb : Hp) (q u : Addr) (xs : List V) (f : Nat → Nat) (S : List Nat) (i : Nat) (HH : Hp) (us : List Addr) : Prop := Same Hb HH ∧ HH q = some (.lst xs) ∧ PtsAt HH u us ((S.take i).map fun t => (t, f t))
theorem Turns.start {Hb HH : Hp} {q u : Addr} {xs : List V} {f : Nat → Nat} {S : List Nat} (s : Same Hb HH) (hq : HH q = some (.lst xs)) (hu : HH u = some (.lst [])) : Turns Hb q u xs f S 0 HH [] :=
  ⟨s, hq, hu, by simp, fun i z b h => by simp at h⟩
theorem Turns.ul {Hb HH : Hp} {q u : Addr} {xs : List V} {f : Nat → Nat} {S : List Nat} {i : Nat} {us : List Addr} (h : Turns Hb q u xs f S i HH us) : (us.map V.ref).length ≤ S.length := by
  rw [List.length_map, h.2.2.2.1, List.length_map, List.length_take]
  omega
theorem Turns.step {Hb HH HH' : Hp} {q u tt : Addr} {xs : List V} {f : Nat → Nat} {S : List Nat} {i tk : Nat} {us : List Addr} (h : Turns Hb q u xs f S i HH us) (hi : S[i]? = some tk) (nu : Hb u = none) (hqu : q ≠ u) (s : Same HH HH') (ht : HH' tt = none) :
    Turns Hb q u xs f S (i + 1) (upd (upd HH' tt (.tup [.int (tk : Int), .int (f tk : Int)])) u (.lst (us.map V.ref ++ [V.ref tt]))) (us ++ [tt]) := by
  obtain ⟨h1, h2, h3⟩ := h
  have h2' := s _ _ h2
  refine ⟨same_upd (same_upd (h1.trans s) ((h1.trans s).free ht)) nu, ?_, ?_⟩
  · rw [upd_ne hqu, upd_ne (ne_of_none h2' ht)]
    exact h2'
  · rw [take_snoc hi, List.map_append]
    exact (h3.mono s).snoc (q := (tk, f tk)) ht
theorem Turns.at {Hb HH : Hp} {q u : Addr} {xs : List V} {f : Nat → Nat} {S : List Nat} {us : List Addr} {i : Nat} (h : Turns Hb q u xs f S i HH us) (hi : i = S.length) : PtsAt HH u us (S.map fun t => (t, f t)) := by
  have q := h.2.2
  rw [hi, List.take_length] at q
  exact q
theorem tick_at {S : List Nat} {i : Nat} {y : V} (hi : ((S.map fun (t : Nat) => (t : Int)).map V.int)[i]? = some y) : ∃ tk, S[i]? = some tk ∧ y = V.int (tk : Int) := by
  rw [List.getElem?_map, List.getElem?_map] at hi
  cases e : S[i]? with
  | none =>
    rw [e] at hi
    cases hi
  | some tk =>
    rw [e] at hi
    exact ⟨tk, rfl, (Option.some.inj hi).symm⟩
theorem new_ne {H1 H2 : Hp} {q u : Addr} {o : HO} (s : Same H1 H2) (hu : H1 u = some o) (hq : H2 q = none) : q ≠ u := fun z => by
  have e := s _ _ hu
  rw [← z, hq] at e
  cases e
theorem rg3 {k : Nat} {j : Int} (hk : k ≤ 1000000) (e : j = 3 * (k : Int)) : RgC 0 j 3 k := by
  subst e
  refine rgStep (by decide) (by decide) (by decide) (by decide) hk (by omega) ?_ (by omega)
  unfold Builtin.Range.rangeSize
  rw [if_pos (by decide)]
  split <;> omega
end LD
namespace Law
open PySem PySem.Spec PyProof.Rows L2 LD
open PySem.W (Codec)
def top (i : Nat) : Stmt := PySem.Challenge.pw_lanedesk_s11_pass_of.main.body.getD i (.Pass ⟨0, 0, 0, 0⟩)
abbrev s_held_gain : Stmt := top 13
abbrev s_Fader_init : Stmt := inClass (top 25) 0
abbrev s_Fader_take : Stmt := inClass (top 25) 1
abbrev s_answer : Stmt := top 5
abbrev s_bytes_answer : Stmt := top 6
abbrev s_refusal : Stmt := top 7
abbrev s_rounded : Stmt := top 12
abbrev s_line_value : Stmt := top 14
abbrev s_between : Stmt := top 15
abbrev s_fader_at : Stmt := top 26
abbrev s_touch_gain : Stmt := top 27
abbrev s_gain_heard : Stmt := top 28
abbrev s_are_events : Stmt := top 29
abbrev s_event_ticks : Stmt := top 30
abbrev s_two_bytes : Stmt := top 46
abbrev s_four_bytes : Stmt := top 47
abbrev s_point_fault : Stmt := top 48
abbrev s_lane_fault : Stmt := top 49
abbrev s_points_of : Stmt := top 50
abbrev s_gain_at : Stmt := top 51
abbrev s_ticks_of : Stmt := top 52
abbrev s_lane_ticks : Stmt := top 53
abbrev s_fewest : Stmt := top 54
abbrev s_low_first : Stmt := top 55
abbrev s_bytes_of : Stmt := top 56
abbrev s_lane_refusal : Stmt := top 59
abbrev s_lane_answer : Stmt := top 60
abbrev s_pass_refusal : Stmt := top 61
abbrev s_pass_of : Stmt := top 62
theorem sc_held_gain : FnScope ["handed"] ["handed"] (defScope s_held_gain) := ⟨rfl, rfl, rfl, by decide +kernel, rfl, by decide +kernel, by decide +kernel⟩
theorem sc_Fader_init : FnScope ["self", "level"] ["self", "level"] (defScope s_Fader_init) := ⟨rfl, rfl, rfl, by decide +kernel, rfl, by decide +kernel, by decide +kernel⟩
theorem sc_Fader_take : FnScope ["self", "tick", "what", "level"] ["self", "tick", "what", "level"] (defScope s_Fader_take) := ⟨rfl, rfl, rfl, by decide +kernel, rfl, by decide +kernel, by decide +kernel⟩
theorem sc_answer : FnScope ["number", "told"] ["number", "told"] (defScope s_answer) := ⟨rfl, rfl, rfl, by decide +kernel, rfl, by decide +kernel, by decide +kernel⟩
theorem sc_bytes_answer : FnScope ["told"] ["told"] (defScope s_bytes_answer) := ⟨rfl, rfl, rfl, by decide +kernel, rfl, by decide +kernel, by decide +kernel⟩
theorem sc_refusal : FnScope ["number"] ["number"] (defScope s_refusal) := ⟨rfl, rfl, rfl, by decide +kernel, rfl, by decide +kernel, by decide +kernel⟩
theorem sc_rounded : FnScope ["dividend", "divisor", "below", "twice_rest"] ["dividend", "divisor"] (defScope s_rounded) := ⟨rfl, rfl, rfl, by decide +kernel, rfl, by decide +kernel, by decide +kernel⟩
theorem sc_line_value : FnScope ["u", "v", "step", "steps"] ["u", "v", "step", "steps"] (defScope s_line_value) := ⟨rfl, rfl, rfl, by decide +kernel, rfl, by decide +kernel, by decide +kernel⟩
theorem sc_between : FnScope ["u", "v", "step"] ["u", "v", "step"] (defScope s_between) := ⟨rfl, rfl, rfl, by decide +kernel, rfl, by decide +kernel, by decide +kernel⟩
theorem sc_fader_at : FnScope ["tick", "level", "e", "fader", "place"] ["tick", "level", "e"] (defScope s_fader_at) := ⟨rfl, rfl, rfl, by decide +kernel, rfl, by decide +kernel, by decide +kernel⟩
theorem sc_touch_gain : FnScope ["back", "tick", "old", "fader"] ["back", "tick", "old", "fader"] (defScope s_touch_gain) := ⟨rfl, rfl, rfl, by decide +kernel, rfl, by decide +kernel, by decide +kernel⟩
theorem sc_gain_heard : FnScope ["mode", "back", "gain", "e", "tick", "old", "fader"] ["mode", "back", "gain", "e", "tick", "old"] (defScope s_gain_heard) := ⟨rfl, rfl, rfl, by decide +kernel, rfl, by decide +kernel, by decide +kernel⟩
theorem sc_are_events : FnScope ["a", "b", "e", "earliest", "place"] ["a", "b", "e"] (defScope s_are_events) := ⟨rfl, rfl, rfl, by decide +kernel, rfl, by decide +kernel, by decide +kernel⟩
theorem sc_event_ticks : FnScope ["back", "e", "ticks", "place", "i"] ["back", "e"] (defScope s_event_ticks) := ⟨rfl, rfl, rfl, by decide +kernel, rfl, by decide +kernel, by decide +kernel⟩
theorem sc_two_bytes : FnScope ["l", "place"] ["l", "place"] (defScope s_two_bytes) := ⟨rfl, rfl, rfl, by decide +kernel, rfl, by decide +kernel, by decide +kernel⟩
theorem sc_four_bytes : FnScope ["l", "place"] ["l", "place"] (defScope s_four_bytes) := ⟨rfl, rfl, rfl, by decide +kernel, rfl, by decide +kernel, by decide +kernel⟩
theorem sc_point_fault : FnScope ["l", "place", "tick_before", "gain_before", "tick"] ["l", "place", "tick_before", "gain_before"] (defScope s_point_fault) := ⟨rfl, rfl, rfl, by decide +kernel, rfl, by decide +kernel, by decide +kernel⟩
theorem sc_lane_fault : FnScope ["l", "many", "end", "tick_before", "gain_before", "place", "fault"] ["l"] (defScope s_lane_fault) := ⟨rfl, rfl, rfl, by decide +kernel, rfl, by decide +kernel, by decide +kernel⟩
theorem sc_points_of : FnScope ["l", "points", "place"] ["l"] (defScope s_points_of) := ⟨rfl, rfl, rfl, by decide +kernel, rfl, by decide +kernel, by decide +kernel⟩
theorem sc_gain_at : FnScope ["points", "tick", "point"] ["points", "tick"] (defScope s_gain_at) := ⟨rfl, rfl, rfl, by decide +kernel, rfl, by decide +kernel, by decide +kernel⟩
theorem sc_ticks_of : FnScope ["points", "point"] ["points"] (defScope s_ticks_of) := ⟨rfl, rfl, rfl, by decide +kernel, rfl, by decide +kernel, by decide +kernel⟩
theorem sc_lane_ticks : FnScope ["ticks", "tick"] ["ticks"] (defScope s_lane_ticks) := ⟨rfl, rfl, rfl, by decide +kernel, rfl, by decide +kernel, by decide +kernel⟩
theorem sc_fewest : FnScope ["points", "i"] ["points"] (defScope s_fewest) := ⟨rfl, rfl, rfl, by decide +kernel, rfl, by decide +kernel, by decide +kernel⟩
theorem sc_low_first : FnScope ["number", "many", "told", "rest", "place"] ["number", "many"] (defScope s_low_first) := ⟨rfl, rfl, rfl, by decide +kernel, rfl, by decide +kernel, by decide +kernel⟩
theorem sc_bytes_of : FnScope ["points", "told", "point"] ["points"] (defScope s_bytes_of) := ⟨rfl, rfl, rfl, by decide +kernel, rfl, by decide +kernel, by decide +kernel⟩
theorem sc_lane_refusal : FnScope ["l", "fault"] ["l"] (defScope s_lane_refusal) := ⟨rfl, rfl, rfl, by decide +kernel, rfl, by decide +kernel, by decide +kernel⟩
theorem sc_lane_answer : FnScope ["turns", "points"] ["turns"] (defScope s_lane_answer) := ⟨rfl, rfl, rfl, by decide +kernel, rfl, by decide +kernel, by decide +kernel⟩
theorem sc_pass_refusal : FnScope ["a", "b", "mode", "back", "l", "e", "refused"] ["a", "b", "mode", "back", "l", "e"] (defScope s_pass_refusal) := ⟨rfl, rfl, rfl, by decide +kernel, rfl, by decide +kernel, by decide +kernel⟩
theorem sc_pass_of : FnScope ["a", "b", "mode", "back", "gain", "l", "e", "refused", "points", "turns", "tick", "old", "said"] ["a", "b", "mode", "back", "gain", "l", "e"] (defScope s_pass_of) := ⟨rfl, rfl, rfl, by decide +kernel, rfl, by decide +kernel, by decide +kernel⟩
section
variable {P : Program} {w : World} {K : PySem.W.Frag} {mg : Str → Option Value} {base : Heap} {C : Addr}
theorem ok_held_gain {f : Addr} {fd : FuncData} (F : Fun K "held_gain" "held_gain" s_held_gain f fd) (C_GREATEST_GAIN : Cn mg "GREATEST_GAIN" (65535)) (B_min : mg "min" = none) : FnOk P w K mg base CX0 1 f fd ["handed"] spHeldGain := by
  refine F.ok sc_held_gain (fun vs H Q E h => ?_) (fun cdv A outer s H vs Q E hr h => ?_)
  · obtain ⟨n, rfl, k⟩ := h
    rfl
  · obtain ⟨n, rfl, k⟩ := h
    refine ⟨_, (pss_one (ps_ret (pe_callB (call_min2 rfl) (by rfl) B_min boot_min (pa_cons (pe_cn C_GREATEST_GAIN) (pa_cons (pv 0) pa_nil))))), ?_⟩
    exact ⟨_, rfl, _, _, rfl, qi k (by rw [Int.min_def]; split <;> split <;> omega)⟩
theorem ok_Fader_init {f : Addr} {fd : FuncData} (F : Fun K "__init__" "Fader.__init__" s_Fader_init f fd) {f_held_gain : Addr} {fd_held_gain : FuncData} (G_held_gain : FnOk P w K mg base CX0 1 f_held_gain fd_held_gain ["handed"] spHeldGain) (D_held_gain : Df K mg "held_gain" s_held_gain ["handed"] f_held_gain fd_held_gain) (T : Txt K C) : FnOk P w K mg base CX0 2 f fd ["self", "level"] (spInit C) := by
  refine F.ok sc_Fader_init (fun vs H Q E h => ?_) (fun cdv A outer s H vs Q E hr h => ?_)
  · obtain ⟨p, dx, g, rfl, hp, k⟩ := h
    rfl
  · obtain ⟨p, dx, g, rfl, hp, k⟩ := h
    refine ⟨_, (pss_cons (ps_fld (pv 0) (pe_fn G_held_gain D_held_gain (hr.mono (by decide)) (pa_cons (pv 1) pa_nil)) rfl)
      (pss_cons (ps_fld (pv 0) pe_bl rfl)
      (pss_cons (ps_fld (pv 0) pe_bl rfl)
      (pss_one (ps_fld (pv 0) pe_non rfl))))), ?_⟩
    have em : min (g : Int) 65535 = ((min g 65535 : Nat) : Int) := by omega
    refine ⟨_, rfl, (g : Int), rfl, _, rfl, p, C, dx, [], rfl, hp, T.cl, T.nL, (by show 0 < 1000; decide), ?_⟩
    refine ⟨_, rfl, p, C, dx, _, rfl, upd_same, T.cl, T.nW, (by show 1 < 1000; decide), ?_⟩
    refine ⟨_, rfl, p, C, dx, _, rfl, upd_same, T.cl, T.nI, (Nat.lt_of_le_of_lt (length_putF _ _ _) (by show 1 + 1 < 1000; decide)), ?_⟩
    refine ⟨_, rfl, p, C, dx, _, rfl, upd_same, T.cl, T.nG, (Nat.lt_of_le_of_lt (length_putF _ _ _) (Nat.lt_of_le_of_lt (Nat.add_le_add_right (length_putF _ _ _) 1) (by show 1 + 1 + 1 < 1000; decide))), ?_⟩
    refine k _ ⟨dx, ?_⟩ fun b o e hb => ?_
    · rw [upd_same, em, flds_made]
      rfl
    · rw [upd_ne hb, upd_ne hb, upd_ne hb, upd_ne hb]
      exact e
theorem ok_Fader_take {f : Addr} {fd : FuncData} (F : Fun K "take" "Fader.take" s_Fader_take f fd) {f_held_gain : Addr} {fd_held_gain : FuncData} (G_held_gain : FnOk P w K mg base CX0 1 f_held_gain fd_held_gain ["handed"] spHeldGain) (D_held_gain : Df K mg "held_gain" s_held_gain ["handed"] f_held_gain fd_held_gain) (T : Txt K C) (C_TOUCHED : Cn mg "TOUCHED" (1)) : FnOk P w K mg base CX0 2 f fd ["self", "tick", "what", "level"] (spTake C) := by
  refine F.ok sc_Fader_take (fun vs H Q E h => ?_) (fun cdv A outer s H vs Q E hr h => ?_)
  · obtain ⟨p, x, t, a, g, rfl, ⟨dx, hp⟩, k⟩ := h
    rfl
  · obtain ⟨p, x, t, a, g, rfl, ⟨dx, hp⟩, k⟩ := h
    refine ⟨_, (pss_one (ps_if (pt_cmpR op_eq (pv 2) (pe_cn C_TOUCHED) (nomark _)) (pss_cons (ps_fld (pv 0) (pe_fn G_held_gain D_held_gain (hr.mono (by decide)) (pa_cons (pv 3) pa_nil)) rfl)
      (pss_cons (ps_fld (pv 0) pe_bl rfl)
      (pss_one (ps_fld (pv 0) pe_bl rfl)))) (pss_one (ps_if (pt_val (pe_fld (pv 0) rfl)) (pss_cons (ps_fld (pv 0) pe_bl rfl)
      (pss_one (ps_fld (pv 0) (pv 1) rfl))) pss_nil)))), ?_⟩
    have em : min (g : Int) 65535 = ((min g 65535 : Nat) : Int) := by omega
    refine ⟨_, rfl, rfl, _, rfl, ite2 (fun c => ?_) (fun c => ?_)⟩
    · have c : (a : Int) = 1 := V.int.inj (of_decide_eq_true c)
      have et : x.take t a g = ⟨min g 65535, true, true, x.go⟩ := by unfold Fd.take; rw [if_pos (by omega)]
      refine ⟨_, rfl, (g : Int), rfl, _, rfl, p, C, dx, _, rfl, hp, T.cl, T.nL, (by show 4 < 1000; decide), ?_⟩
      rw [put_level]
      refine ⟨_, rfl, p, C, dx, _, rfl, upd_same, T.cl, T.nW, (by show 4 < 1000; decide), ?_⟩
      rw [put_was]
      refine ⟨_, rfl, p, C, dx, _, rfl, upd_same, T.cl, T.nI, (by show 4 < 1000; decide), ?_⟩
      rw [put_is]
      refine k _ ⟨dx, ?_⟩ fun b o e hb => ?_
      · rw [upd_same, et, em]
      · rw [upd_ne hb, upd_ne hb, upd_ne hb]
        exact e
    · have c : ¬ (a : Int) = 1 := fun z => c (decide_eq_true (congrArg V.int z))
      refine ⟨_, rfl, p, C, dx, _, _, rfl, hp, T.cl, T.nI, look_is _ _ _ _, _, rfl, ite2 (fun c2 => ?_) (fun c2 => ?_)⟩
      · have et : x.take t a g = ⟨x.level, x.was, false, some t⟩ := by unfold Fd.take; rw [if_neg (by omega), if_pos c2]
        refine ⟨_, rfl, p, C, dx, _, rfl, hp, T.cl, T.nI, (by show 4 < 1000; decide), ?_⟩
        rw [put_is]
        refine ⟨_, rfl, _, rfl, p, C, dx, _, rfl, upd_same, T.cl, T.nG, (by show 4 < 1000; decide), ?_⟩
        rw [put_go]
        refine k _ ⟨dx, ?_⟩ fun b o e hb => ?_
        · rw [upd_same, et]
          rfl
        · rw [upd_ne hb, upd_ne hb]
          exact e
      · have et : x.take t a g = x := by unfold Fd.take; rw [if_neg (by omega), if_neg c2]
        exact k H ⟨dx, by rw [et]; exact hp⟩ fun b o e _ => e
theorem ok_answer {f : Addr} {fd : FuncData} (F : Fun K "answer" "answer" s_answer f fd) (B_len : mg "len" = none) : FnOk P w K mg base CX0 1 f fd ["number", "told"] spAnswer := by
  refine F.ok sc_answer (fun vs H Q E h => ?_) (fun cdv A outer s H vs Q E hr h => ?_)
  · obtain ⟨n, a, ts, rfl, ha, hl, k⟩ := h
    rfl
  · obtain ⟨n, a, ts, rfl, ha, hl, k⟩ := h
    refine ⟨_, (pss_one (ps_ret (pe_op op_cat (pe_lst (pa_cons (pv 0) (pa_cons pe_int (pa_cons (pe_callB (call_lenK (K := K) rfl) (by rfl) B_len PySem.boot_len (pa_cons (pv 1) pa_nil)) pa_nil)))) (pv 1)))), ?_⟩
    refine ⟨_, rfl, _, rfl, a, _, rfl, .inl (SqL.of ha), (by show 3 ≤ sizeLine; decide), fun p hp => ?_⟩
    refine ⟨_, rfl, p, a, _, _, rfl, rfl, upd_same, (by rw [upd_ne (ne_of_none ha hp)]; exact ha), ?_, fun q hq => ?_⟩
    · have l2 : sizeLine = 16777216 := by decide
      rw [List.length_map]
      show 3 + ts.length ≤ _
      omega
    · have s1 : Same H (upd H p (.lst [V.int n, V.int 0, V.int ((ts.map V.int).length : Nat)])) := same_upd0 hp
      refine k _ q (s1.free hq) (s1.trans (same_upd0 hq)) ?_
      rw [upd_same, List.length_map]
      all_goals rfl
theorem ok_bytes_answer {f : Addr} {fd : FuncData} (F : Fun K "bytes_answer" "bytes_answer" s_bytes_answer f fd) (B_len : mg "len" = none) : FnOk P w K mg base CX0 1 f fd ["told"] spBA := by
  refine F.ok sc_bytes_answer (fun vs H Q E h => ?_) (fun cdv A outer s H vs Q E hr h => ?_)
  · obtain ⟨a, ts, rfl, ha, hl, k⟩ := h
    rfl
  · obtain ⟨a, ts, rfl, ha, hl, k⟩ := h
    refine ⟨_, (pss_one (ps_ret (pe_op op_cat (pe_op op_cat (pe_lst (pa_cons (pe_callB (call_lenK (K := K) rfl) (by rfl) B_len PySem.boot_len (pa_cons (pv 0) pa_nil)) (pa_cons (pe_callB (call_lenK (K := K) rfl) (by rfl) B_len PySem.boot_len (pa_cons (pv 0) pa_nil)) pa_nil))) (pv 0)) (pe_lst (pa_cons pe_int pa_nil))))), ?_⟩
    have l2 : sizeLine = 16777216 := by decide
    have ln : (ts.map V.int).length = ts.length := List.length_map ..
    refine ⟨_, rfl, a, _, rfl, .inl (SqL.of ha), _, rfl, a, _, rfl, .inl (SqL.of ha), (by show 2 ≤ sizeLine; decide), fun p hp => ?_⟩
    refine ⟨_, rfl, p, a, _, _, rfl, rfl, upd_same, (by rw [upd_ne (ne_of_none ha hp)]; exact ha), (by rw [ln]; show 2 + ts.length ≤ _; omega), fun q hq => ?_⟩
    have s1 : Same H (upd H p (.lst [V.int (((ts.map V.int).length : Nat) : Int), V.int (((ts.map V.int).length : Nat) : Int)])) := same_upd0 hp
    refine ⟨(by show 1 ≤ sizeLine; decide), fun r hr2 => ?_⟩
    have s2 : Same H (upd (upd H p (.lst [V.int (((ts.map V.int).length : Nat) : Int), V.int (((ts.map V.int).length : Nat) : Int)])) q (.lst ([V.int (((ts.map V.int).length : Nat) : Int), V.int (((ts.map V.int).length : Nat) : Int)] ++ ts.map V.int))) := same_upd s1 (s1.free hq)
    have hqr : q ≠ r := fun z => by
      rw [← z, upd_same] at hr2
      cases hr2
    refine ⟨q, r, _, _, rfl, rfl, (by rw [upd_ne hqr]; exact upd_same), upd_same, (by rw [List.length_append, ln]; show 2 + ts.length + 1 ≤ _; omega), fun u hu => ?_⟩
    have s3 := same_upd (o := HO.lst [V.int 0]) s2 (s2.free hr2)
    refine k _ u (s3.free hu) (same_upd s3 (s3.free hu)) ?_
    rw [upd_same, ln, List.map_cons, List.map_cons, List.map_append]
    all_goals rfl
theorem ok_refusal {f : Addr} {fd : FuncData} (F : Fun K "refusal" "refusal" s_refusal f fd) {f_answer : Addr} {fd_answer : FuncData} (G_answer : FnOk P w K mg base CX0 1 f_answer fd_answer ["number", "told"] spAnswer) (D_answer : Df K mg "answer" s_answer ["number", "told"] f_answer fd_answer) : FnOk P w K mg base CX0 2 f fd ["number"] spRefusal := by
  refine F.ok sc_refusal (fun vs H Q E h => ?_) (fun cdv A outer s H vs Q E hr h => ?_)
  · obtain ⟨n, rfl, k⟩ := h
    rfl
  · obtain ⟨n, rfl, k⟩ := h
    refine ⟨_, (pss_one (ps_ret (pe_fn G_answer D_answer (hr.mono (by decide)) (pa_cons (pv 0) (pa_cons (pe_lst pa_nil) pa_nil))))), ?_⟩
    refine ⟨_, rfl, (by decide), fun p hp => ?_⟩
    exact ⟨n, p, [], rfl, upd_same, (by decide), k.mono (same_upd0 hp)⟩
theorem ok_rounded {f : Addr} {fd : FuncData} (F : Fun K "rounded" "rounded" s_rounded f fd) : FnOk P w K mg base CX0 1 f fd ["dividend", "divisor"] spRounded := by
  refine F.ok sc_rounded (fun vs H Q E h => ?_) (fun cdv A outer s H vs Q E hr h => ?_)
  · obtain ⟨a, b, rfl, h0, h1, k⟩ := h
    rfl
  · obtain ⟨a, b, rfl, h0, h1, k⟩ := h
    refine ⟨_, (pss_cons (ps_set (i := 2) sc_rounded.nd rfl (Or.inl rfl) (pe_op op_fdiv (pv 0) (pv 1)))
      (pss_cons (ps_set (i := 3) sc_rounded.nd rfl (Or.inl rfl) (pe_op op_mul pe_int (pe_op op_mod (pv 0) (pv 1))))
      (pss_cons (ps_if (pt_cmpR op_gt (pv 3) (pv 1) (nomark _)) (pss_one (ps_ret (pe_op op_add (pv 2) pe_int))) pss_nil)
      (pss_cons (ps_if (pt_cmpR op_eq (pv 3) (pv 1) (nomark _)) (pss_one (ps_ret (pe_op op_add (pv 2) (pe_op op_mod (pv 2) pe_int)))) pss_nil)
      (pss_one (ps_ret (pv 2))))))), ?_⟩
    have b0 : (0 : Int) < (b : Int) := by omega
    refine ⟨_, rfl, _, rfl, _, _, rfl, rfl, ⟨b0, by omega⟩, ?_⟩
    refine ⟨_, rfl, _, rfl, _, _, rfl, rfl, b0, _, _, rfl, rfl, .inl ⟨by decide, by decide⟩, ?_⟩
    refine ⟨_, rfl, _, rfl, _, _, rfl, rfl, _, rfl, ite2 (fun c => ?_) (fun c => ?_)⟩
    · have c := of_decide_eq_true c
      exact ⟨_, rfl, _, _, rfl, rfl, qi k (rounded_up c)⟩
    · have c := fun z => c (decide_eq_true z)
      refine ⟨_, rfl, _, rfl, rfl, _, rfl, ite2 (fun c2 => ?_) (fun c2 => ?_)⟩
      · have c2 := of_decide_eq_true c2
        exact ⟨_, rfl, _, rfl, _, _, rfl, rfl, (by show (0 : Int) < 2; decide), _, _, rfl, rfl, qi k (rounded_even (V.int.inj c2))⟩
      · have c2 := fun z => c2 (decide_eq_true z)
        exact ⟨_, rfl, qi k (rounded_down c fun z => c2 (congrArg V.int z))⟩
theorem ok_line_value {f : Addr} {fd : FuncData} (F : Fun K "line_value" "line_value" s_line_value f fd) {f_rounded : Addr} {fd_rounded : FuncData} (G_rounded : FnOk P w K mg base CX0 1 f_rounded fd_rounded ["dividend", "divisor"] spRounded) (D_rounded : Df K mg "rounded" s_rounded ["dividend", "divisor"] f_rounded fd_rounded) : FnOk P w K mg base CX0 2 f fd ["u", "v", "step", "steps"] spLine := by
  refine F.ok sc_line_value (fun vs H Q E h => ?_) (fun cdv A outer s H vs Q E hr h => ?_)
  · obtain ⟨u, v, s, n, rfl, hu, hv, hn, k⟩ := h
    rfl
  · obtain ⟨u, v, s, n, rfl, hu, hv, hn, k⟩ := h
    refine ⟨_, (pss_one (ps_ret (pe_fn G_rounded D_rounded (hr.mono (by decide)) (pa_cons (pe_op op_add (pe_op op_mul (pv 0) (pe_op op_sub (pv 3) (pv 2))) (pe_op op_mul (pv 1) (pv 2))) (pa_cons (pv 3) pa_nil))))), ?_⟩
    refine ⟨_, rfl, _, rfl, _, rfl, _, _, rfl, rfl, _, _, rfl, rfl, .inl ⟨by omega, by omega⟩, _, rfl, _, rfl, _, _, rfl, rfl, .inl ⟨by omega, by omega⟩, _, _, rfl, rfl, _, rfl, u * (n - s) + v * s, n.toNat, ?_, by omega, by omega, k⟩
    show [V.int (u * (n - s) + v * s), V.int n] = _
    rw [Int.toNat_of_nonneg (by omega)]
theorem ok_between {f : Addr} {fd : FuncData} (F : Fun K "between" "between" s_between f fd) {f_line_value : Addr} {fd_line_value : FuncData} (G_line_value : FnOk P w K mg base CX0 2 f_line_value fd_line_value ["u", "v", "step", "steps"] spLine) (D_line_value : Df K mg "line_value" s_line_value ["u", "v", "step", "steps"] f_line_value fd_line_value) (C_GLIDE_STEPS : Cn mg "GLIDE_STEPS" (64)) : FnOk P w K mg base CX0 3 f fd ["u", "v", "step"] spBetween := by
  refine F.ok sc_between (fun vs H Q E h => ?_) (fun cdv A outer s H vs Q E hr h => ?_)
  · obtain ⟨u, v, i, rfl, hu, hv, k⟩ := h
    rfl
  · obtain ⟨u, v, i, rfl, hu, hv, k⟩ := h
    refine ⟨_, (pss_one (ps_ret (pe_fn G_line_value D_line_value (hr.mono (by decide)) (pa_cons (pv 0) (pa_cons (pv 1) (pa_cons (pv 2) (pa_cons (pe_cn C_GLIDE_STEPS) pa_nil))))))), ?_⟩
    exact ⟨_, rfl, _, rfl, _, rfl, u, v, i, 64, rfl, hu, hv, ⟨by decide, by decide⟩, k⟩
theorem ok_fader_at {f : Addr} {fd : FuncData} (F : Fun K "fader_at" "fader_at" s_fader_at f fd) (T : Txt K C) {f_Fader_take : Addr} {fd_Fader_take : FuncData} (G_Fader_take : FnOk P w K mg base CX0 2 f_Fader_take fd_Fader_take ["self", "tick", "what", "level"] (spTake C)) (m_Fader_take : Meth K C "take" f_Fader_take) (b_Fader_take : Binds K fd_Fader_take ["self", "tick", "what", "level"] []) {f_Fader_init : Addr} {fd_Fader_init : FuncData} (G_Fader_init : FnOk P w K mg base CX0 2 f_Fader_init fd_Fader_init ["self", "level"] (spInit C)) (M_Fader : Mk K C f_Fader_init) (mg_Fader : mg "Fader" = some (.ref C)) (b_Fader_init : Binds K fd_Fader_init ["self", "level"] []) (C_EVENT_NUMBERS : Cn mg "EVENT_NUMBERS" (3)) (B_range : mg "range" = none) (B_len : mg "len" = none) : FnOk P w K mg base CX0 4 f fd ["tick", "level", "e"] (spFA K C) := by
  refine F.ok sc_fader_at (fun vs H Q E h => ?_) (fun cdv A outer s H vs Q E hr h => ?_)
  · obtain ⟨t, g, n, p, e, rfl, hS, he, hl, hn, k⟩ := h
    rfl
  · obtain ⟨t, g, n, p, e, rfl, hS, he, hl, hn, k⟩ := h
    refine ⟨_, (pss_cons (ps_set (i := 3) sc_fader_at.nd rfl (Or.inl rfl) (pe_make M_Fader G_Fader_init (hr.mono (by decide)) rfl mg_Fader b_Fader_init .nil pass0 (pa_cons (pv 1) pa_nil)))
      (pss_cons (ps_for PassesOwn.never rfl (pi_range3 rfl B_range (pa_cons pe_int (pa_cons (pe_callB (call_lenK (K := K) rfl) (by rfl) B_len PySem.boot_len (pa_cons (pv 2) pa_nil)) (pa_cons (pe_cn C_EVENT_NUMBERS) pa_nil)))) (pg_name (i := 4) sc_fader_at.nd rfl (Or.inl rfl)) (pss_one (ps_if (pt_cmpR op_le (pe_ix (ix_listK (K := K) rfl) (pv 2) (pv 4) (fun _ _ => rfl)) (pv 0) (nomark _)) (pss_one (ps_expr (pe_meth (pv 3) T.cl m_Fader_take G_Fader_take (hr.mono (by decide)) b_Fader_take .nil pass0 (pa_cons (pe_ix (ix_listK (K := K) rfl) (pv 2) (pv 4) (fun _ _ => rfl)) (pa_cons (pe_ix (ix_listK (K := K) rfl) (pv 2) (pe_op op_add (pv 4) pe_int) (fun _ _ => rfl)) (pa_cons (pe_ix (ix_listK (K := K) rfl) (pv 2) (pe_op op_add (pv 4) pe_int) (fun _ _ => rfl)) pa_nil)))))) pss_nil)))
      (pss_one (ps_ret (pv 3))))), ?_⟩
    have ln : (e.map V.int).length = e.length := List.length_map ..
    refine ⟨_, rfl, fun x dx nx ndx nex => ⟨x, dx, g, rfl, upd_same, fun H1 F1 kp => ⟨rfl, ?_⟩⟩⟩
    have s1 : Same H H1 := Same.made nx ndx kp
    refine ⟨_, rfl, p, _, rfl, .inl (s1.seq hS), _, _, _, n, rfl, rg3 (by omega) (by rw [ln, hl]; omega), for_rangeC (n := n) (fun i σ H2 => Same H H2 ∧ FdAt C H2 x (fdAt t g e i) ∧ ∃ v : Option V, [some (V.int (t : Int)), some (V.int (g : Int)), some (V.ref p), some (V.ref x), v] = σ) ⟨s1, F1, none, rfl⟩ ?_ ?_⟩
    · rintro i σ H2 hi ⟨s2, F2, v, rfl⟩
      have q0 : e.getD (3 * i) 0 = (evTick e i : Int) := (Int.toNat_of_nonneg (nat_at he _)).symm
      have q1 : e.getD (3 * i + 1) 0 = (evWhat e i : Int) := (Int.toNat_of_nonneg (nat_at he _)).symm
      have q2 : e.getD (3 * i + 2) 0 = (evGain e i : Int) := (Int.toNat_of_nonneg (nat_at he _)).symm
      have h2 := s2.seq hS
      refine ⟨_, rfl, _, rfl, p, _, _, _, rfl, rfl, h2, at_of (j := 3 * i) (by omega) (getI (by omega)), _, rfl, _, _, rfl, rfl, _, rfl, ite2 (fun c => ?_) (fun c => ?_)⟩
      · have c := of_decide_eq_true c
        rw [q0] at c
        obtain ⟨dy, hy⟩ := id F2
        refine ⟨_, rfl, x, dy, _, rfl, hy, look_take _ _ _ _, _, rfl, _, rfl, p, _, _, _, rfl, rfl, h2, at_of (j := 3 * i) (by omega) (getI (by omega)), ?_⟩
        refine ⟨_, rfl, _, rfl, _, _, rfl, rfl, p, _, _, _, rfl, rfl, h2, at_of (j := 3 * i + 1) (by omega) (getI (by omega)), ?_⟩
        refine ⟨_, rfl, _, rfl, _, _, rfl, rfl, p, _, _, _, rfl, rfl, h2, at_of (j := 3 * i + 2) (by omega) (getI (by omega)), ?_⟩
        refine ⟨x, fdAt t g e i, evTick e i, evWhat e i, evGain e i, ?_, F2, fun H3 F3 kp3 => ⟨fun b o z => kp3 b o (s2 b o z) (ne_of_none z nx), ?_, _, rfl⟩⟩
        · show [V.ref x, V.int (e.getD (3 * i) 0), V.int (e.getD (3 * i + 1) 0), V.int (e.getD (3 * i + 2) 0)] = _
          rw [q0, q1, q2]
        · rw [fdAt, if_pos (by omega)]
          exact F3
      · have c := fun z => c (decide_eq_true z)
        rw [q0] at c
        refine ⟨s2, ?_, _, rfl⟩
        rw [fdAt, if_neg (fun z => c (by omega))]
        exact F2
    · rintro σ H2 ⟨s2, F2, v, rfl⟩
      exact ⟨_, rfl, k H2 x s2 nx F2⟩
theorem ok_touch_gain {f : Addr} {fd : FuncData} (F : Fun K "touch_gain" "touch_gain" s_touch_gain f fd) {f_between : Addr} {fd_between : FuncData} (G_between : FnOk P w K mg base CX0 3 f_between fd_between ["u", "v", "step"] spBetween) (D_between : Df K mg "between" s_between ["u", "v", "step"] f_between fd_between) (T : Txt K C) (C_GLIDE_STEPS : Cn mg "GLIDE_STEPS" (64)) : FnOk P w K mg base CX0 4 f fd ["back", "tick", "old", "fader"] (spTG C) := by
  refine F.ok sc_touch_gain (fun vs H Q E h => ?_) (fun cdv A outer s H vs Q E hr h => ?_)
  · obtain ⟨back, t, old, p, x, rfl, ⟨dx, hp⟩, hx, hg, ho, hb, k⟩ := h
    rfl
  · obtain ⟨back, t, old, p, x, rfl, ⟨dx, hp⟩, hx, hg, ho, hb, k⟩ := h
    refine ⟨_, (pss_cons (ps_if (pt_val (pe_fld (pv 3) rfl)) (pss_one (ps_ret (pe_fld (pv 3) rfl))) pss_nil)
      (pss_cons (ps_if (PW.pt (pw_or (pt_cmpR op_isN (pe_fld (pv 3) rfl) pe_non (nomark _)) (pw_or1 (pt_cmpR op_ge (pe_op op_sub (pv 1) (pe_fld (pv 3) rfl)) (pv 0) (nomark _))))) (pss_one (ps_ret (pv 2))) pss_nil)
      (pss_one (ps_ret (pe_fn G_between D_between (hr.mono (by decide)) (pa_cons (pe_fld (pv 3) rfl) (pa_cons (pv 2) (pa_cons (pe_op op_fdiv (pe_op op_mul (pe_cn C_GLIDE_STEPS) (pe_op op_add (pe_op op_sub (pv 1) (pe_fld (pv 3) rfl)) pe_int)) (pe_op op_add (pv 0) pe_int)) pa_nil)))))))), ?_⟩
    refine ⟨_, rfl, p, C, dx, _, _, rfl, hp, T.cl, T.nI, look_is _ _ _ _, _, rfl, ite2 (fun c => ?_) (fun c => ?_)⟩
    · refine ⟨_, rfl, p, C, dx, _, _, rfl, hp, T.cl, T.nL, look_level _ _ _ _, qi k ?_⟩
      unfold touchI
      rw [if_pos c]
    refine ⟨_, rfl, p, C, dx, _, _, rfl, hp, T.cl, T.nG, look_go _ _ _ _, rfl, _, rfl, ?_⟩
    cases eg : x.go with
    | none =>
      refine iteT ?_
      refine iteT ⟨_, rfl, qi k ?_⟩
      unfold touchI
      rw [if_neg c, eg]
    | some r =>
      have hr := hg r eg
      have lg : (flds (x.level : Int) x.was x.is (goV x.go)).lookup ("let_go" : Str) = some (.int (r : Int)) := by rw [look_go, eg]; rfl
      have ek : touchI back t old x = if back ≤ t - r then (old : Int) else betI x.level old ((64 * (t - r + 1) / (back + 1) : Nat) : Int) := by
        unfold touchI
        rw [if_neg c, eg]
      refine iteF ?_
      refine ⟨_, rfl, _, rfl, p, C, dx, _, _, rfl, hp, T.cl, T.nG, lg, _, _, rfl, rfl, _, rfl, _, _, rfl, rfl, _, rfl, ite2 (fun c2 => ?_) (fun c2 => ?_)⟩
      · have c2 : (back : Int) ≤ (t : Int) - (r : Int) := of_decide_eq_true c2
        rw [if_pos (by omega)] at ek
        exact ⟨_, rfl, qi k ek⟩
      · have c2 : ¬ (back : Int) ≤ (t : Int) - (r : Int) := fun z => c2 (decide_eq_true z)
        rw [if_neg (by omega)] at ek
        refine ⟨_, rfl, p, C, dx, _, _, rfl, hp, T.cl, T.nL, look_level _ _ _ _, _, rfl, ?_⟩
        refine ⟨_, rfl, _, rfl, p, C, dx, _, _, rfl, hp, T.cl, T.nG, lg, _, _, rfl, rfl, _, _, rfl, rfl, _, _, rfl, rfl, .inl ⟨by decide, by decide⟩, ?_⟩
        refine ⟨_, rfl, _, _, rfl, rfl, _, _, rfl, rfl, ⟨by omega, by omega⟩, ?_⟩
        refine ⟨(x.level : Int), (old : Int), ((64 * (t - r + 1) / (back + 1) : Nat) : Int), ?_, ⟨by omega, by omega⟩, ⟨by omega, by omega⟩, qi k ek⟩
        show [V.int (x.level : Int), V.int (old : Int), V.int (64 * ((t : Int) - (r : Int) + 1) / ((back : Int) + 1))] = _
        rw [show (64 : Int) * ((t : Int) - (r : Int) + 1) = ((64 * (t - r + 1) : Nat) : Int) by omega, show (back : Int) + 1 = ((back + 1 : Nat) : Int) by omega]
        rfl
theorem ok_gain_heard {f : Addr} {fd : FuncData} (F : Fun K "gain_heard" "gain_heard" s_gain_heard f fd) {f_fader_at : Addr} {fd_fader_at : FuncData} (G_fader_at : FnOk P w K mg base CX0 4 f_fader_at fd_fader_at ["tick", "level", "e"] (spFA K C)) (D_fader_at : Df K mg "fader_at" s_fader_at ["tick", "level", "e"] f_fader_at fd_fader_at) {f_touch_gain : Addr} {fd_touch_gain : FuncData} (G_touch_gain : FnOk P w K mg base CX0 4 f_touch_gain fd_touch_gain ["back", "tick", "old", "fader"] (spTG C)) (D_touch_gain : Df K mg "touch_gain" s_touch_gain ["back", "tick", "old", "fader"] f_touch_gain fd_touch_gain) {f_held_gain : Addr} {fd_held_gain : FuncData} (G_held_gain : FnOk P w K mg base CX0 1 f_held_gain fd_held_gain ["handed"] spHeldGain) (D_held_gain : Df K mg "held_gain" s_held_gain ["handed"] f_held_gain fd_held_gain) {f_rounded : Addr} {fd_rounded : FuncData} (G_rounded : FnOk P w K mg base CX0 1 f_rounded fd_rounded ["dividend", "divisor"] spRounded) (D_rounded : Df K mg "rounded" s_rounded ["dividend", "divisor"] f_rounded fd_rounded) (T : Txt K C) (C_TOUCH_MODE : Cn mg "TOUCH_MODE" (1)) (C_LATCH_MODE : Cn mg "LATCH_MODE" (2)) (C_WRITE_MODE : Cn mg "WRITE_MODE" (3)) (C_TRIM_MODE : Cn mg "TRIM_MODE" (4)) (C_GAIN_AS_IT_CAME : Cn mg "GAIN_AS_IT_CAME" (16384)) : FnOk P w K mg base CX0 5 f fd ["mode", "back", "gain", "e", "tick", "old"] (spGH K C) := by
  refine F.ok sc_gain_heard (fun vs H Q E h => ?_) (fun cdv A outer s H vs Q E hr h => ?_)
  · obtain ⟨m, back, g, t, old, n, p, e, rfl, hS, he, hl, hn, hw, hb, ho, k⟩ := h
    rfl
  · obtain ⟨m, back, g, t, old, n, p, e, rfl, hS, he, hl, hn, hw, hb, ho, k⟩ := h
    refine ⟨_, (pss_cons (ps_set (i := 6) sc_gain_heard.nd rfl (Or.inl rfl) (pe_fn G_fader_at D_fader_at (hr.mono (by decide)) (pa_cons (pv 4) (pa_cons (pv 2) (pa_cons (pv 3) pa_nil)))))
      (pss_cons (ps_if (pt_cmpR op_eq (pv 0) (pe_cn C_TOUCH_MODE) (nomark _)) (pss_one (ps_ret (pe_fn G_touch_gain D_touch_gain (hr.mono (by decide)) (pa_cons (pv 1) (pa_cons (pv 4) (pa_cons (pv 5) (pa_cons (pv 6) pa_nil))))))) pss_nil)
      (pss_cons (ps_if (PW.pt (pw_or (pt_cmpR op_eq (pv 0) (pe_cn C_WRITE_MODE) (nomark _)) (pw_or1 (PW.pt (pw_and (pt_cmpR op_eq (pv 0) (pe_cn C_LATCH_MODE) (nomark _)) (pw_and1 (pt_val (pe_fld (pv 6) rfl)))))))) (pss_one (ps_ret (pe_fld (pv 6) rfl))) pss_nil)
      (pss_cons (ps_if (pt_cmpR op_eq (pv 0) (pe_cn C_TRIM_MODE) (nomark _)) (pss_one (ps_ret (pe_fn G_held_gain D_held_gain (hr.mono (by decide)) (pa_cons (pe_fn G_rounded D_rounded (hr.mono (by decide)) (pa_cons (pe_op op_mul (pv 5) (pe_fld (pv 6) rfl)) (pa_cons (pe_cn C_GAIN_AS_IT_CAME) pa_nil))) pa_nil)))) pss_nil)
      (pss_one (ps_ret (pv 5))))))), ?_⟩
    refine ⟨_, rfl, _, rfl, _, rfl, t, g, n, p, e, rfl, hS, he, hl, hn, fun H1 x s1 nx F1 => ?_⟩
    obtain ⟨_, _, _, _, hx, hg⟩ := fdAt_is (t := t) (p := ⟨0, 0, m, back, g⟩) (e := e) hw
    have hx : (fdAt t g e n).level ≤ 65535 := hx
    have hg : ∀ r, (fdAt t g e n).go = some r → r ≤ t := hg
    have k := k H1 s1
    unfold heardI at k
    refine ⟨_, rfl, rfl, _, rfl, ite2 (fun c => ?_) (fun c => ?_)⟩
    · have c : (m : Int) = 1 := V.int.inj (of_decide_eq_true c)
      rw [if_pos (by omega)] at k
      exact ⟨_, rfl, _, rfl, _, rfl, _, rfl, back, t, old, x, _, rfl, F1, hx, hg, ho, hb, k⟩
    have c1 : ¬ (m : Int) = 1 := fun z => c (decide_eq_true (congrArg V.int z))
    rw [if_neg (by omega)] at k
    obtain ⟨dy, hy⟩ := id F1
    refine ⟨_, rfl, rfl, _, rfl, ite2 (fun c => ?_) (fun c => ?_)⟩
    · have c : (m : Int) = 3 := V.int.inj (of_decide_eq_true c)
      rw [if_pos (.inl (by omega))] at k
      exact iteT ⟨_, rfl, x, C, dy, _, _, rfl, hy, T.cl, T.nL, look_level _ _ _ _, k⟩
    have c3 : ¬ (m : Int) = 3 := fun z => c (decide_eq_true (congrArg V.int z))
    refine ⟨_, rfl, rfl, _, rfl, ite2 (fun c => ?_) (fun c => ?_)⟩
    · have c : (m : Int) = 2 := V.int.inj (of_decide_eq_true c)
      refine ⟨_, rfl, x, C, dy, _, _, rfl, hy, T.cl, T.nW, look_was _ _ _ _, _, rfl, ite2 (fun c4 => ?_) (fun c4 => ?_)⟩
      · rw [if_pos (.inr ⟨by omega, c4⟩)] at k
        exact ⟨_, rfl, x, C, dy, _, _, rfl, hy, T.cl, T.nL, look_level _ _ _ _, k⟩
      · rw [if_neg (by rintro (z | z); (· omega); exact c4 z.2), if_neg (by omega)] at k
        refine ⟨_, rfl, rfl, _, rfl, ite2 (fun c => ?_) (fun _ => ⟨_, rfl, k⟩)⟩
        have c : (m : Int) = 4 := V.int.inj (of_decide_eq_true c)
        omega
    · have c2 : ¬ (m : Int) = 2 := fun z => c (decide_eq_true (congrArg V.int z))
      rw [if_neg (by rintro (z | z) <;> omega)] at k
      refine iteF ?_
      refine ⟨_, rfl, rfl, _, rfl, ite2 (fun c => ?_) (fun c => ?_)⟩
      · have c : (m : Int) = 4 := V.int.inj (of_decide_eq_true c)
        rw [if_pos (by omega)] at k
        refine ⟨_, rfl, _, rfl, x, C, dy, _, _, rfl, hy, T.cl, T.nL, look_level _ _ _ _, _, _, rfl, rfl, .inl ⟨by omega, by omega⟩, ?_⟩
        exact ⟨_, 16384, rfl, by decide, by decide, _, rfl, k⟩
      · have c : ¬ (m : Int) = 4 := fun z => c (decide_eq_true (congrArg V.int z))
        rw [if_neg (by omega)] at k
        exact ⟨_, rfl, k⟩
theorem ok_are_events {f : Addr} {fd : FuncData} (F : Fun K "are_events" "are_events" s_are_events f fd) (C_EVENT_NUMBERS : Cn mg "EVENT_NUMBERS" (3)) (C_TOUCHED : Cn mg "TOUCHED" (1)) (B_len : mg "len" = none) (B_range : mg "range" = none) : FnOk P w K mg base CX0 1 f fd ["a", "b", "e"] (spAE K) := by
  refine F.ok sc_are_events (fun vs H Q E h => ?_) (fun cdv A outer s H vs Q E hr h => ?_)
  · obtain ⟨a, b, p, e, rfl, hS, he, hl, a0, b0, k⟩ := h
    rfl
  · obtain ⟨a, b, p, e, rfl, hS, he, hl, a0, b0, k⟩ := h
    refine ⟨_, (pss_cons (ps_if (pt_cmpR op_ne (pe_op op_mod (pe_callB (call_lenK (K := K) rfl) (by rfl) B_len PySem.boot_len (pa_cons (pv 2) pa_nil)) (pe_cn C_EVENT_NUMBERS)) pe_int (nomark _)) (pss_one (ps_ret pe_bl)) pss_nil)
      (pss_cons (ps_set (i := 3) sc_are_events.nd rfl (Or.inl rfl) (pv 0))
      (pss_cons (ps_for PassesOwn.never rfl (pi_range3 rfl B_range (pa_cons pe_int (pa_cons (pe_callB (call_lenK (K := K) rfl) (by rfl) B_len PySem.boot_len (pa_cons (pv 2) pa_nil)) (pa_cons (pe_cn C_EVENT_NUMBERS) pa_nil)))) (pg_name (i := 4) sc_are_events.nd rfl (Or.inl rfl)) (pss_cons (ps_if (PW.pt (pw_or (pt_cmpR op_lt (pe_ix (ix_listK (K := K) rfl) (pv 2) (pv 4) (fun _ _ => rfl)) (pv 3) (nomark _)) (pw_or (pt_cmpR op_ge (pe_ix (ix_listK (K := K) rfl) (pv 2) (pv 4) (fun _ _ => rfl)) (pv 1) (nomark _)) (pw_or1 (pt_cmpR op_gt (pe_ix (ix_listK (K := K) rfl) (pv 2) (pe_op op_add (pv 4) pe_int) (fun _ _ => rfl)) (pe_cn C_TOUCHED) (nomark _)))))) (pss_one (ps_ret pe_bl)) pss_nil)
      (pss_one (ps_set (i := 3) sc_are_events.nd rfl (Or.inl rfl) (pe_ix (ix_listK (K := K) rfl) (pv 2) (pv 4) (fun _ _ => rfl))))))
      (pss_one (ps_ret pe_bl))))), ?_⟩
    have ln : (e.map V.int).length = e.length := List.length_map ..
    refine ⟨_, rfl, p, _, rfl, .inl hS, _, _, rfl, rfl, (by show (0 : Int) < 3; decide), rfl, _, rfl, ite2 (fun c => ?_) (fun c => ?_)⟩
    · have c : ¬ (((e.map V.int).length : Nat) : Int) % 3 = 0 := fun z => by
        have c : (!decide (V.int ((((e.map V.int).length : Nat) : Int) % 3) = V.int 0)) = true := c
        rw [z] at c
        simp at c
      rw [ln] at c
      have ek : evOk a.toNat b.toNat e = false := by
        unfold evOk
        rw [decide_eq_false (by omega), Bool.false_and]
      rw [ek] at k
      exact k
    have c : (((e.map V.int).length : Nat) : Int) % 3 = 0 := Decidable.byContradiction fun z => c (by
      show (!decide (V.int ((((e.map V.int).length : Nat) : Int) % 3) = V.int 0)) = true
      rw [decide_eq_false (fun y => z (V.int.inj y))]
      rfl)
    rw [ln] at c
    obtain ⟨n, hn⟩ : ∃ n, e.length = 3 * n := ⟨e.length / 3, by omega⟩
    have ek : evOk a.toNat b.toNat e = okUp a.toNat b.toNat e n := by
      unfold evOk
      rw [decide_eq_true (by omega), Bool.true_and, show e.length / 3 = n by omega]
    rw [ek] at k
    refine ⟨_, rfl, ?_⟩
    refine ⟨_, rfl, p, _, rfl, .inl hS, _, _, _, n, rfl, rg3 (by omega) (by rw [ln, hn]; omega), for_rangeC (n := n) (fun i σ H2 => H = H2 ∧ okUp a.toNat b.toNat e i = true ∧ ∃ v : Option V, [some (V.int a), some (V.int b), some (V.ref p), some (V.int (lastTick a.toNat e i : Int)), v] = σ) ⟨rfl, rfl, none, ?_⟩ ?_ ?_⟩
    · show [some (V.int a), some (V.int b), some (V.ref p), some (V.int ((a.toNat : Nat) : Int)), none] = _
      rw [Int.toNat_of_nonneg a0]
      rfl
    · rintro i σ H2 hi ⟨rfl, hk, v, rfl⟩
      have q0 : e.getD (3 * i) 0 = (evTick e i : Int) := (Int.toNat_of_nonneg (nat_at he _)).symm
      have q1 : e.getD (3 * i + 1) 0 = (evWhat e i : Int) := (Int.toNat_of_nonneg (nat_at he _)).symm
      have no : ¬ (lastTick a.toNat e i ≤ evTick e i ∧ evTick e i < b.toNat ∧ evWhat e i ≤ 1) → Q (.bl false) H := fun z => by
        have y : okUp a.toNat b.toNat e (i + 1) = false := by
          rw [okUp_succ, hk, Bool.true_and, Bool.eq_false_iff]
          intro x
          rw [Bool.and_eq_true, Bool.and_eq_true, decide_eq_true_eq, decide_eq_true_eq, decide_eq_true_eq] at x
          exact z x
        rw [okUp_false y hi] at k
        exact k
      refine ⟨_, rfl, _, rfl, p, _, _, _, rfl, rfl, hS, at_of (j := 3 * i) (by omega) (getI (by omega)), _, rfl, _, _, rfl, rfl, _, rfl, ite2 (fun c => ?_) (fun c => ?_)⟩
      · have c := of_decide_eq_true c
        rw [q0] at c
        exact iteT (no (by omega))
      have c1 := fun z => c (decide_eq_true z)
      rw [q0] at c1
      refine ⟨_, rfl, _, rfl, p, _, _, _, rfl, rfl, hS, at_of (j := 3 * i) (by omega) (getI (by omega)), _, rfl, _, _, rfl, rfl, _, rfl, ite2 (fun c => ?_) (fun c => ?_)⟩
      · have c := of_decide_eq_true c
        rw [q0] at c
        exact iteT (no (by omega))
      have c2 := fun z => c (decide_eq_true z)
      rw [q0] at c2
      refine ⟨_, rfl, _, rfl, _, _, rfl, rfl, p, _, _, _, rfl, rfl, hS, at_of (j := 3 * i + 1) (by omega) (getI (by omega)), _, _, rfl, rfl, _, rfl, ite2 (fun c => ?_) (fun c => ?_)⟩
      · have c := of_decide_eq_true c
        rw [q1] at c
        exact no (by omega)
      have c3 := fun z => c (decide_eq_true z)
      rw [q1] at c3
      refine ⟨_, rfl, _, rfl, p, _, _, _, rfl, rfl, hS, at_of (j := 3 * i) (by omega) (getI (by omega)), rfl, ?_, some (V.int (0 + (i : Nat) * 3)), ?_⟩
      · have d1 : ¬ (evTick e i : Int) < (lastTick a.toNat e i : Int) := c1
        have d2 : ¬ b ≤ (evTick e i : Int) := c2
        have d3 : ¬ (1 : Int) < (evWhat e i : Int) := c3
        rw [okUp_succ, hk, decide_eq_true (show lastTick a.toNat e i ≤ evTick e i by omega), decide_eq_true (show evTick e i < b.toNat by omega), decide_eq_true (show evWhat e i ≤ 1 by omega)]
        rfl
      · show [some (V.int a), some (V.int b), some (V.ref p), some (V.int ((evTick e i : Nat) : Int)), _] = _
        rw [← q0]
        rfl
    · rintro σ H2 ⟨rfl, hk, v, rfl⟩
      rw [hk] at k
      exact k
theorem ok_event_ticks {f : Addr} {fd : FuncData} (F : Fun K "event_ticks" "event_ticks" s_event_ticks f fd) (C_EVENT_NUMBERS : Cn mg "EVENT_NUMBERS" (3)) (B_range : mg "range" = none) (B_len : mg "len" = none) : FnOk P w K mg base CX0 1 f fd ["back", "e"] (spET K) := by
  refine F.ok sc_event_ticks (fun vs H Q E h => ?_) (fun cdv A outer s H vs Q E hr h => ?_)
  · obtain ⟨back, n, p, e, rfl, hS, hl, hn, hb, k⟩ := h
    rfl
  · obtain ⟨back, n, p, e, rfl, hS, hl, hn, hb, k⟩ := h
    refine ⟨_, (pss_cons (ps_set (i := 2) sc_event_ticks.nd rfl (Or.inl rfl) (pe_lst pa_nil))
      (pss_cons (ps_for PassesOwn.never rfl (pi_range3 rfl B_range (pa_cons pe_int (pa_cons (pe_callB (call_lenK (K := K) rfl) (by rfl) B_len PySem.boot_len (pa_cons (pv 1) pa_nil)) (pa_cons (pe_cn C_EVENT_NUMBERS) pa_nil)))) (pg_name (i := 3) sc_event_ticks.nd rfl (Or.inr rfl)) (pss_one (ps_expr (pe_bm PySem.F.plainAttrs_list PySem.F.slot_list_extend PySem.F.type_list_extend mt_extend (pv 2) (pa_cons (pe_lc (own := [("i", 4)]) rfl sc_event_ticks.nd (pi_range1 rfl B_range (pa_cons (pe_op op_add (pv 0) pe_int) pa_nil)) (blkOk_by (by show blkC ["back", "e", "ticks", "place", "i"] (defScope s_event_ticks) _ [("i", 4)] = true; decide +kernel)) (fun _ _ _ _ _ => (pg_name (i := 4) sc_event_ticks.nd rfl (Or.inl rfl))) (fun _ _ _ _ _ => pts_nil) (fun _ _ _ _ _ => (pe_op op_add (pe_ix (ix_listK (K := K) rfl) (pv 1) (pv 3) (fun _ _ => rfl)) (pv 4)))) pa_nil)))))
      (pss_one (ps_ret (pv 2))))), ?_⟩
    have ln : (e.map V.int).length = e.length := List.length_map ..
    have l2 : sizeLine = 16777216 := by decide
    refine ⟨(by decide), fun d hd => ?_⟩
    have s1 : Same H (upd H d (.lst [])) := same_upd0 hd
    refine ⟨_, rfl, p, _, rfl, .inl (s1.seq hS), _, _, _, n, rfl, rg3 (by omega) (by rw [ln, hl]; omega), for_rangeC (n := n) (fun i σ H2 => Same H H2 ∧ H2 d = some (.lst ((evTicks e back i).map V.int)) ∧ ∃ v : Option V, [some (V.int (back : Int)), some (V.ref p), some (V.ref d), v, none] = σ) ⟨s1, upd_same, none, rfl⟩ ?_ ?_⟩
    · rintro i σ H2 hi ⟨s2, h2, v, rfl⟩
      have q := evTicks_few (e := e) (back := back) (show i ≤ 64 by omega) hb
      refine ⟨_, rfl, .inl ⟨rfl, _, SqL.of h2⟩, _, rfl, _, _, rfl, rfl, _, rfl, (by omega), (by omega), fun D n3 => lcr0 (n := ((back : Int) + 1).toNat) (fun j => V.int (e.getD (3 * i) 0 + (j : Int))) (by omega) n3 (fun j H3 hj s3 R hR => ?_) fun H3 s3 h3 => ?_⟩
      · refine ⟨rfl, _, rfl, _, rfl, p, _, _, _, rfl, rfl, (s2.trans s3).seq hS, at_of (j := 3 * i) (by omega) (getI (by omega)), _, rfl, _, _, rfl, rfl, ?_⟩
        have q := hR H3 (Same.refl _)
        rw [Int.zero_add]
        exact q
      · refine ⟨d, D, _, _, rfl, rfl, s3 _ _ h2, h3, (by rw [List.length_map, List.length_map, List.length_range]; omega), same_upd (s2.trans s3) hd, ?_, _, rfl⟩
        rw [upd_same, evTicks_succ, List.map_append, List.map_map, show ((back : Int) + 1).toNat = back + 1 by omega]
        rfl
    · rintro σ H2 ⟨s2, h2, v, rfl⟩
      exact ⟨_, rfl, k H2 d hd s2 h2⟩
theorem ok_two_bytes {f : Addr} {fd : FuncData} (F : Fun K "two_bytes" "two_bytes" s_two_bytes f fd) : FnOk P w K mg base CX0 1 f fd ["l", "place"] (spTwo K) := by
  refine F.ok sc_two_bytes (fun vs H Q E h => ?_) (fun cdv A outer s H vs Q E hr h => ?_)
  · obtain ⟨a, l, p, rfl, hS, hb, hp, k⟩ := h
    rfl
  · obtain ⟨a, l, p, rfl, hS, hb, hp, k⟩ := h
    refine ⟨_, (pss_one (ps_ret (pe_op op_add (pe_ix (ix_listK (K := K) rfl) (pv 0) (pv 1) (fun _ _ => rfl)) (pe_op op_mul pe_int (pe_ix (ix_listK (K := K) rfl) (pv 0) (pe_op op_add (pv 1) pe_int) (fun _ _ => rfl)))))), ?_⟩
    refine ⟨_, rfl, _, rfl, a, _, _, _, rfl, rfl, hS, at_of (j := p) rfl (getI (by omega)), ?_⟩
    refine ⟨_, rfl, _, rfl, _, _, rfl, rfl, a, _, _, _, rfl, rfl, hS, at_of (j := p + 1) rfl (getI (by omega)), _, _, rfl, rfl, .inl ⟨by decide, by decide⟩, _, _, rfl, rfl, qi k (b2_int hb p).symm⟩
theorem ok_four_bytes {f : Addr} {fd : FuncData} (F : Fun K "four_bytes" "four_bytes" s_four_bytes f fd) {f_two_bytes : Addr} {fd_two_bytes : FuncData} (G_two_bytes : FnOk P w K mg base CX0 1 f_two_bytes fd_two_bytes ["l", "place"] (spTwo K)) (D_two_bytes : Df K mg "two_bytes" s_two_bytes ["l", "place"] f_two_bytes fd_two_bytes) : FnOk P w K mg base CX0 2 f fd ["l", "place"] (spFour K) := by
  refine F.ok sc_four_bytes (fun vs H Q E h => ?_) (fun cdv A outer s H vs Q E hr h => ?_)
  · obtain ⟨a, l, p, rfl, hS, hb, hp, k⟩ := h
    rfl
  · obtain ⟨a, l, p, rfl, hS, hb, hp, k⟩ := h
    refine ⟨_, (pss_one (ps_ret (pe_op op_add (pe_fn G_two_bytes D_two_bytes (hr.mono (by decide)) (pa_cons (pv 0) (pa_cons (pv 1) pa_nil))) (pe_op op_mul pe_int (pe_fn G_two_bytes D_two_bytes (hr.mono (by decide)) (pa_cons (pv 0) (pa_cons (pe_op op_add (pv 1) pe_int) pa_nil))))))), ?_⟩
    refine ⟨_, rfl, _, rfl, a, l, p, rfl, hS, hb, by omega, ?_⟩
    refine ⟨_, rfl, _, rfl, _, _, rfl, rfl, a, l, p + 2, rfl, hS, hb, by omega, _, _, rfl, rfl, .inl ⟨by decide, by decide⟩, _, _, rfl, rfl, qi k ?_⟩
    rw [b4_two]
    omega
theorem ok_point_fault {f : Addr} {fd : FuncData} (F : Fun K "point_fault" "point_fault" s_point_fault f fd) {f_four_bytes : Addr} {fd_four_bytes : FuncData} (G_four_bytes : FnOk P w K mg base CX0 2 f_four_bytes fd_four_bytes ["l", "place"] (spFour K)) (D_four_bytes : Df K mg "four_bytes" s_four_bytes ["l", "place"] f_four_bytes fd_four_bytes) {f_two_bytes : Addr} {fd_two_bytes : FuncData} (G_two_bytes : FnOk P w K mg base CX0 1 f_two_bytes fd_two_bytes ["l", "place"] (spTwo K)) (D_two_bytes : Df K mg "two_bytes" s_two_bytes ["l", "place"] f_two_bytes fd_two_bytes) (C_TICK_BYTES : Cn mg "TICK_BYTES" (4)) (C_BYTES_END : Cn mg "BYTES_END" (1)) (C_GREATEST_TICK : Cn mg "GREATEST_TICK" (16777215)) (C_LEAST_TICK : Cn mg "LEAST_TICK" (1)) (C_NUMBER_OUT_OF_BOUNDS : Cn mg "NUMBER_OUT_OF_BOUNDS" (2)) (C_NOT_ANOTHER : Cn mg "NOT_ANOTHER" (3)) (C_POINT_BYTES : Cn mg "POINT_BYTES" (6)) (B_len : mg "len" = none) : FnOk P w K mg base CX0 3 f fd ["l", "place", "tick_before", "gain_before"] (spPF K) := by
  refine F.ok sc_point_fault (fun vs H Q E h => ?_) (fun cdv A outer s H vs Q E hr h => ?_)
  · obtain ⟨a, l, p, t, g, rfl, hS, hb, k1, k2⟩ := h
    rfl
  · obtain ⟨a, l, p, t, g, rfl, hS, hb, k1, k2⟩ := h
    refine ⟨_, (pss_cons (ps_if (pt_cmpR op_lt (pe_callB (call_lenK (K := K) rfl) (by rfl) B_len PySem.boot_len (pa_cons (pv 0) pa_nil)) (pe_op op_add (pv 1) (pe_cn C_TICK_BYTES)) (nomark _)) (pss_one (ps_ret (pe_lst (pa_cons (pe_cn C_BYTES_END) (pa_cons (pe_callB (call_lenK (K := K) rfl) (by rfl) B_len PySem.boot_len (pa_cons (pv 0) pa_nil)) pa_nil))))) pss_nil)
      (pss_cons (ps_set (i := 4) sc_point_fault.nd rfl (Or.inl rfl) (pe_fn G_four_bytes D_four_bytes (hr.mono (by decide)) (pa_cons (pv 0) (pa_cons (pv 1) pa_nil))))
      (pss_cons (ps_if (PW.pt (pw_or (pt_cmpR op_lt (pv 4) (pe_cn C_LEAST_TICK) (nomark _)) (pw_or1 (pt_cmpR op_gt (pv 4) (pe_cn C_GREATEST_TICK) (nomark _))))) (pss_one (ps_ret (pe_lst (pa_cons (pe_cn C_NUMBER_OUT_OF_BOUNDS) (pa_cons (pv 1) pa_nil))))) pss_nil)
      (pss_cons (ps_if (pt_cmpR op_le (pv 4) (pv 2) (nomark _)) (pss_one (ps_ret (pe_lst (pa_cons (pe_cn C_NOT_ANOTHER) (pa_cons (pv 1) pa_nil))))) pss_nil)
      (pss_cons (ps_if (pt_cmpR op_lt (pe_callB (call_lenK (K := K) rfl) (by rfl) B_len PySem.boot_len (pa_cons (pv 0) pa_nil)) (pe_op op_add (pv 1) (pe_cn C_POINT_BYTES)) (nomark _)) (pss_one (ps_ret (pe_lst (pa_cons (pe_cn C_BYTES_END) (pa_cons (pe_callB (call_lenK (K := K) rfl) (by rfl) B_len PySem.boot_len (pa_cons (pv 0) pa_nil)) pa_nil))))) pss_nil)
      (pss_cons (ps_if (pt_cmpR op_eq (pe_fn G_two_bytes D_two_bytes (hr.mono (by decide)) (pa_cons (pv 0) (pa_cons (pe_op op_add (pv 1) (pe_cn C_TICK_BYTES)) pa_nil))) (pv 3) (nomark _)) (pss_one (ps_ret (pe_lst (pa_cons (pe_cn C_NOT_ANOTHER) (pa_cons (pe_op op_add (pv 1) (pe_cn C_TICK_BYTES)) pa_nil))))) pss_nil)
      (pss_one (ps_ret pe_non)))))))), ?_⟩
    have ln : (l.map V.int).length = l.length := List.length_map ..
    have z2 : 2 ≤ sizeLine := by decide
    refine ⟨_, rfl, a, _, rfl, .inl hS, _, rfl, _, _, rfl, rfl, _, _, rfl, rfl, _, rfl, ite2 (fun c => ?_) (fun c => ?_)⟩
    · have c := of_decide_eq_true c
      rw [ln] at c
      refine ⟨_, rfl, a, _, rfl, .inl hS, z2, fun q hq => ?_⟩
      rw [ln]
      exact (k1 (1, l.length) (by unfold ptFault; rw [if_pos (by omega)])).pair hq
    have c := fun z => c (decide_eq_true z)
    rw [ln] at c
    have c1 : ¬ l.length < p + 4 := fun z => c (by omega)
    refine ⟨_, rfl, _, rfl, a, l, p, rfl, hS, hb, by omega, ?_⟩
    refine ⟨_, rfl, _, _, rfl, rfl, _, rfl, ite2 (fun c => ?_) (fun c => ?_)⟩
    · have c := of_decide_eq_true c
      refine iteT ⟨_, rfl, z2, fun q hq => ?_⟩
      exact (k1 (2, p) (by unfold ptFault; rw [if_neg c1, if_pos (by omega)])).pair hq
    have c := fun z => c (decide_eq_true z)
    refine ⟨_, rfl, _, _, rfl, rfl, _, rfl, ite2 (fun c3 => ?_) (fun c3 => ?_)⟩
    · have c3 := of_decide_eq_true c3
      refine ⟨_, rfl, z2, fun q hq => ?_⟩
      exact (k1 (2, p) (by unfold ptFault; rw [if_neg c1, if_pos (by omega)])).pair hq
    have c3 := fun z => c3 (decide_eq_true z)
    have c2 : ¬ (b4 l p = 0 ∨ 16777216 ≤ b4 l p) := by
      rintro (z | z)
      · exact c (by omega)
      · exact c3 (by omega)
    refine ⟨_, rfl, _, rfl, _, _, rfl, rfl, _, rfl, ite2 (fun c4 => ?_) (fun c4 => ?_)⟩
    · have c4 := of_decide_eq_true c4
      refine ⟨_, rfl, z2, fun q hq => ?_⟩
      exact (k1 (3, p) (by unfold ptFault; rw [if_neg c1, if_neg c2, if_pos (by omega)])).pair hq
    have c4 := fun z => c4 (decide_eq_true z)
    have c4 : ¬ b4 l p ≤ t := fun z => c4 (by omega)
    refine ⟨_, rfl, a, _, rfl, .inl hS, _, rfl, _, _, rfl, rfl, _, _, rfl, rfl, _, rfl, ite2 (fun c5 => ?_) (fun c5 => ?_)⟩
    · have c5 := of_decide_eq_true c5
      rw [ln] at c5
      refine ⟨_, rfl, a, _, rfl, .inl hS, z2, fun q hq => ?_⟩
      rw [ln]
      exact (k1 (1, l.length) (by unfold ptFault; rw [if_neg c1, if_neg c2, if_neg c4, if_pos (by omega)])).pair hq
    have c5 := fun z => c5 (decide_eq_true z)
    rw [ln] at c5
    have c5 : ¬ l.length < p + 6 := fun z => c5 (by omega)
    refine ⟨_, rfl, _, rfl, _, _, rfl, rfl, a, l, p + 4, rfl, hS, hb, by omega, _, rfl, rfl, _, rfl, ite2 (fun c6 => ?_) (fun c6 => ?_)⟩
    · have c6 := V.int.inj (of_decide_eq_true c6)
      refine ⟨_, rfl, _, _, rfl, rfl, z2, fun q hq => ?_⟩
      exact (k1 (3, p + 4) (by unfold ptFault; rw [if_neg c1, if_neg c2, if_neg c4, if_neg c5, if_pos (by omega)])).pair hq
    have c6 : ¬ (b2 l (p + 4) : Int) = (g : Int) := fun z => c6 (decide_eq_true (congrArg V.int z))
    exact k2 (by unfold ptFault; rw [if_neg c1, if_neg c2, if_neg c4, if_neg c5, if_neg (by omega)])
theorem ok_lane_fault {f : Addr} {fd : FuncData} (F : Fun K "lane_fault" "lane_fault" s_lane_fault f fd) {f_two_bytes : Addr} {fd_two_bytes : FuncData} (G_two_bytes : FnOk P w K mg base CX0 1 f_two_bytes fd_two_bytes ["l", "place"] (spTwo K)) (D_two_bytes : Df K mg "two_bytes" s_two_bytes ["l", "place"] f_two_bytes fd_two_bytes) {f_point_fault : Addr} {fd_point_fault : FuncData} (G_point_fault : FnOk P w K mg base CX0 3 f_point_fault fd_point_fault ["l", "place", "tick_before", "gain_before"] (spPF K)) (D_point_fault : Df K mg "point_fault" s_point_fault ["l", "place", "tick_before", "gain_before"] f_point_fault fd_point_fault) {f_four_bytes : Addr} {fd_four_bytes : FuncData} (G_four_bytes : FnOk P w K mg base CX0 2 f_four_bytes fd_four_bytes ["l", "place"] (spFour K)) (D_four_bytes : Df K mg "four_bytes" s_four_bytes ["l", "place"] f_four_bytes fd_four_bytes) (C_HEAD_BYTES : Cn mg "HEAD_BYTES" (4)) (C_BYTES_END : Cn mg "BYTES_END" (1)) (C_COUNT_PLACE : Cn mg "COUNT_PLACE" (2)) (C_MOST_POINTS : Cn mg "MOST_POINTS" (64)) (C_NUMBER_OUT_OF_BOUNDS : Cn mg "NUMBER_OUT_OF_BOUNDS" (2)) (C_POINT_BYTES : Cn mg "POINT_BYTES" (6)) (C_TICK_BYTES : Cn mg "TICK_BYTES" (4)) (C_BYTES_LEFT_OVER : Cn mg "BYTES_LEFT_OVER" (4)) (B_len : mg "len" = none) (B_range : mg "range" = none) : FnOk P w K mg base CX0 4 f fd ["l"] (spLF K) := by
  refine F.ok sc_lane_fault (fun vs H Q E h => ?_) (fun cdv A outer s H vs Q E hr h => ?_)
  · obtain ⟨a, l, rfl, hS, hb, k1, k2⟩ := h
    rfl
  · obtain ⟨a, l, rfl, hS, hb, k1, k2⟩ := h
    refine ⟨_, (pss_cons (ps_if (pt_cmpR op_lt (pe_callB (call_lenK (K := K) rfl) (by rfl) B_len PySem.boot_len (pa_cons (pv 0) pa_nil)) (pe_cn C_HEAD_BYTES) (nomark _)) (pss_one (ps_ret (pe_lst (pa_cons (pe_cn C_BYTES_END) (pa_cons (pe_callB (call_lenK (K := K) rfl) (by rfl) B_len PySem.boot_len (pa_cons (pv 0) pa_nil)) pa_nil))))) pss_nil)
      (pss_cons (ps_set (i := 1) sc_lane_fault.nd rfl (Or.inl rfl) (pe_fn G_two_bytes D_two_bytes (hr.mono (by decide)) (pa_cons (pv 0) (pa_cons (pe_cn C_COUNT_PLACE) pa_nil))))
      (pss_cons (ps_if (pt_cmpR op_gt (pv 1) (pe_cn C_MOST_POINTS) (nomark _)) (pss_one (ps_ret (pe_lst (pa_cons (pe_cn C_NUMBER_OUT_OF_BOUNDS) (pa_cons (pe_cn C_COUNT_PLACE) pa_nil))))) pss_nil)
      (pss_cons (ps_set (i := 2) sc_lane_fault.nd rfl (Or.inl rfl) (pe_op op_add (pe_cn C_HEAD_BYTES) (pe_op op_mul (pe_cn C_POINT_BYTES) (pv 1))))
      (pss_cons (ps_set (i := 3) sc_lane_fault.nd rfl (Or.inl rfl) pe_int)
      (pss_cons (ps_set (i := 4) sc_lane_fault.nd rfl (Or.inl rfl) (pe_fn G_two_bytes D_two_bytes (hr.mono (by decide)) (pa_cons (pv 0) (pa_cons pe_int pa_nil))))
      (pss_cons (ps_for PassesOwn.never rfl (pi_range3 rfl B_range (pa_cons (pe_cn C_HEAD_BYTES) (pa_cons (pv 2) (pa_cons (pe_cn C_POINT_BYTES) pa_nil)))) (pg_name (i := 5) sc_lane_fault.nd rfl (Or.inl rfl)) (pss_cons (ps_set (i := 6) sc_lane_fault.nd rfl (Or.inl rfl) (pe_fn G_point_fault D_point_fault (hr.mono (by decide)) (pa_cons (pv 0) (pa_cons (pv 5) (pa_cons (pv 3) (pa_cons (pv 4) pa_nil))))))
      (pss_cons (ps_if (pt_cmpR op_notN (pv 6) pe_non (nomark _)) (pss_one (ps_ret (pv 6))) pss_nil)
      (pss_cons (ps_set (i := 3) sc_lane_fault.nd rfl (Or.inl rfl) (pe_fn G_four_bytes D_four_bytes (hr.mono (by decide)) (pa_cons (pv 0) (pa_cons (pv 5) pa_nil))))
      (pss_one (ps_set (i := 4) sc_lane_fault.nd rfl (Or.inl rfl) (pe_fn G_two_bytes D_two_bytes (hr.mono (by decide)) (pa_cons (pv 0) (pa_cons (pe_op op_add (pv 5) (pe_cn C_TICK_BYTES)) pa_nil)))))))))
      (pss_cons (ps_if (pt_cmpR op_gt (pe_callB (call_lenK (K := K) rfl) (by rfl) B_len PySem.boot_len (pa_cons (pv 0) pa_nil)) (pv 2) (nomark _)) (pss_one (ps_ret (pe_lst (pa_cons (pe_cn C_BYTES_LEFT_OVER) (pa_cons (pv 2) pa_nil))))) pss_nil)
      (pss_one (ps_ret pe_non)))))))))), ?_⟩
    have ln : (l.map V.int).length = l.length := List.length_map ..
    have z2 : 2 ≤ sizeLine := by decide
    have e0 := laneFault_eq l
    refine ⟨_, rfl, a, _, rfl, .inl hS, _, _, rfl, rfl, _, rfl, ite2 (fun c => ?_) (fun c => ?_)⟩
    · have c := of_decide_eq_true c
      rw [ln] at c
      refine ⟨_, rfl, a, _, rfl, .inl hS, z2, fun q hq => ?_⟩
      rw [ln]
      exact (k1 (1, l.length) (by rw [e0, if_pos (by omega)])).pair hq
    have c := fun z => c (decide_eq_true z)
    rw [ln] at c
    have c1 : ¬ l.length < 4 := fun z => c (by omega)
    rw [if_neg c1] at e0
    refine ⟨_, rfl, a, l, 2, rfl, hS, hb, by omega, ?_⟩
    refine ⟨_, rfl, _, _, rfl, rfl, _, rfl, ite2 (fun c => ?_) (fun c => ?_)⟩
    · have c := of_decide_eq_true c
      refine ⟨z2, fun q hq => ?_⟩
      exact (k1 (2, 2) (by rw [e0, if_pos (by omega)])).pair hq
    have c := fun z => c (decide_eq_true z)
    have c2 : ¬ 64 < b2 l 2 := fun z => c (by omega)
    rw [if_neg c2] at e0
    refine ⟨_, rfl, _, _, rfl, rfl, .inl ⟨by decide, by decide⟩, _, _, rfl, rfl, ?_⟩
    refine ⟨_, rfl, a, l, 0, rfl, hS, hb, by omega, ?_⟩
    refine ⟨_, rfl, _, _, _, b2 l 2, rfl, rg6 (by omega) rfl, for_rangeC (n := b2 l 2) (fun i σ H2 => H = H2 ∧ ∃ (t g : Nat) (v1 v2 : Option V), [some (V.ref a), some (V.int (b2 l 2 : Int)), some (V.int (4 + 6 * (b2 l 2 : Int))), some (V.int (t : Int)), some (V.int (g : Int)), v1, v2] = σ ∧ (i ≤ b2 l 2 → errOf (ptsI l (b2 l 2) 4 0 (b2 l 0)) = errOf (ptsI l (b2 l 2 - i) (4 + 6 * i) t g))) ⟨rfl, 0, b2 l 0, none, none, rfl, fun _ => rfl⟩ ?_ ?_⟩
    · rintro i σ H2 hi ⟨rfl, t, g, v1, v2, rfl, he⟩
      have he := he (Nat.le_of_lt hi)
      rw [show b2 l 2 - i = (b2 l 2 - (i + 1)) + 1 by omega, ptsI_succ] at he
      have ei : (4 : Int) + (i : Nat) * 6 = ((4 + 6 * i : Nat) : Int) := by omega
      refine ⟨_, rfl, _, rfl, _, rfl, _, rfl, a, l, 4 + 6 * i, t, g, ?_, hS, hb, fun e hf => ?_, fun hf => ?_⟩
      · show [V.ref a, V.int (4 + (i : Nat) * 6), V.int (t : Int), V.int (g : Int)] = _
        rw [ei]
      · rw [hf] at he
        have he : errOf (ptsI l (b2 l 2) 4 0 (b2 l 0)) = some e := he
        rw [he] at e0
        intro H3 q hq s3 h3
        refine ⟨_, rfl, rfl, _, rfl, ite2 (fun _ => ?_) (fun z => (z is_ref).elim)⟩
        exact ⟨_, rfl, k1 e e0 H3 q hq s3 h3⟩
      · rw [hf] at he
        have h6 := ptFault_none hf
        refine ⟨_, rfl, rfl, _, rfl, ite2 (fun z => (is_non z).elim) (fun _ => ?_)⟩
        refine ⟨_, rfl, _, rfl, a, l, 4 + 6 * i, ?_, hS, hb, by omega, ?_⟩
        · show [V.ref a, V.int (4 + (i : Nat) * 6)] = _
          rw [ei]
        refine ⟨_, rfl, _, rfl, _, _, rfl, rfl, a, l, 4 + 6 * i + 4, ?_, hS, hb, by omega, ?_⟩
        · show [V.ref a, V.int (4 + (i : Nat) * 6 + 4)] = _
          rw [ei]
          rfl
        exact ⟨rfl, b4 l (4 + 6 * i), b2 l (4 + 6 * i + 4), _, _, rfl, fun _ => he⟩
    · rintro σ H2 ⟨rfl, t, g, v1, v2, rfl, he⟩
      have he := he (Nat.le_refl _)
      rw [Nat.sub_self] at he
      have he : errOf (ptsI l (b2 l 2) 4 0 (b2 l 0)) = none := he
      have hlen : 4 + 6 * b2 l 2 ≤ l.length := by
        cases e : ptsI l (b2 l 2) 4 0 (b2 l 0) with
        | error z =>
          rw [e] at he
          cases he
        | ok x =>
          have q := (ptsI_len e).2
          omega
      rw [he] at e0
      have e0 : laneFault l = if l.length = 4 + 6 * b2 l 2 then none else some (4, 4 + 6 * b2 l 2) := e0
      refine ⟨_, rfl, a, _, rfl, .inl hS, _, rfl, _, _, rfl, rfl, _, rfl, ite2 (fun c => ?_) (fun c => ?_)⟩
      · have c := of_decide_eq_true c
        rw [ln] at c
        refine ⟨_, rfl, z2, fun q hq => ?_⟩
        exact (k1 (4, 4 + 6 * b2 l 2) (by rw [e0, if_neg (by omega)])).pair hq
      · have c := fun z => c (decide_eq_true z)
        rw [ln] at c
        have c : ¬ 4 + 6 * b2 l 2 < l.length := fun z => c (by omega)
        exact k2 (by rw [e0, if_pos (by omega)])
theorem ok_points_of {f : Addr} {fd : FuncData} (F : Fun K "points_of" "points_of" s_points_of f fd) {f_two_bytes : Addr} {fd_two_bytes : FuncData} (G_two_bytes : FnOk P w K mg base CX0 1 f_two_bytes fd_two_bytes ["l", "place"] (spTwo K)) (D_two_bytes : Df K mg "two_bytes" s_two_bytes ["l", "place"] f_two_bytes fd_two_bytes) {f_four_bytes : Addr} {fd_four_bytes : FuncData} (G_four_bytes : FnOk P w K mg base CX0 2 f_four_bytes fd_four_bytes ["l", "place"] (spFour K)) (D_four_bytes : Df K mg "four_bytes" s_four_bytes ["l", "place"] f_four_bytes fd_four_bytes) (C_POINT_BYTES : Cn mg "POINT_BYTES" (6)) (C_HEAD_BYTES : Cn mg "HEAD_BYTES" (4)) (C_TICK_BYTES : Cn mg "TICK_BYTES" (4)) (B_range : mg "range" = none) (B_len : mg "len" = none) : FnOk P w K mg base CX0 3 f fd ["l"] (spPts K) := by
  refine F.ok sc_points_of (fun vs H Q E h => ?_) (fun cdv A outer s H vs Q E hr h => ?_)
  · obtain ⟨a, l, n, rfl, hS, hb, hl, hn, k⟩ := h
    rfl
  · obtain ⟨a, l, n, rfl, hS, hb, hl, hn, k⟩ := h
    refine ⟨_, (pss_cons (ps_set (i := 1) sc_points_of.nd rfl (Or.inl rfl) (pe_lst (pa_cons (pe_tup (pa_cons pe_int (pa_cons (pe_fn G_two_bytes D_two_bytes (hr.mono (by decide)) (pa_cons (pv 0) (pa_cons pe_int pa_nil))) pa_nil))) pa_nil)))
      (pss_cons (ps_for PassesOwn.never rfl (pi_range3 rfl B_range (pa_cons (pe_cn C_HEAD_BYTES) (pa_cons (pe_callB (call_lenK (K := K) rfl) (by rfl) B_len PySem.boot_len (pa_cons (pv 0) pa_nil)) (pa_cons (pe_cn C_POINT_BYTES) pa_nil)))) (pg_name (i := 2) sc_points_of.nd rfl (Or.inl rfl)) (pss_one (ps_expr (pe_bm PySem.F.plainAttrs_list PySem.F.slot_list_append PySem.F.type_list_append mt_append (pv 1) (pa_cons (pe_tup (pa_cons (pe_fn G_four_bytes D_four_bytes (hr.mono (by decide)) (pa_cons (pv 0) (pa_cons (pv 2) pa_nil))) (pa_cons (pe_fn G_two_bytes D_two_bytes (hr.mono (by decide)) (pa_cons (pv 0) (pa_cons (pe_op op_add (pv 2) (pe_cn C_TICK_BYTES)) pa_nil))) pa_nil))) pa_nil)))))
      (pss_one (ps_ret (pv 1))))), ?_⟩
    have ln : (l.map V.int).length = l.length := List.length_map ..
    refine ⟨_, rfl, a, l, 0, rfl, hS, hb, by omega, (by show 2 ≤ sizeLine; decide), fun t ht => ?_⟩
    refine ⟨(by show 1 ≤ sizeLine; decide), fun d hd => ?_⟩
    have s1 : Same H (upd H t (.tup [V.int 0, V.int (b2 l 0 : Int)])) := same_upd0 ht
    have hd0 : H d = none := s1.free hd
    have s2 : Same H (upd (upd H t (.tup [V.int 0, V.int (b2 l 0 : Int)])) d (.lst [V.ref t])) := same_upd s1 hd0
    have P0 : PtsAt (upd (upd H t (.tup [V.int 0, V.int (b2 l 0 : Int)])) d (.lst [V.ref t])) d [t] [(0, b2 l 0)] := PtsAt.one (q := (0, b2 l 0)) upd_same hd
    refine ⟨_, rfl, a, _, rfl, .inl (s2.seq hS), _, _, _, n, rfl, rg6 (by omega) (by rw [ln, hl]; omega), for_rangeC (n := n) (fun i σ H2 => Same H H2 ∧ ∃ (ps : List Addr) (v : Option V), [some (V.ref a), some (V.ref d), v] = σ ∧ PtsAt H2 d ps ((0, b2 l 0) :: ptsAt l 4 i)) ⟨s2, [t], none, rfl, P0⟩ ?_ ?_⟩
    · rintro i σ H2 hi ⟨s3, ps, v, rfl, P2⟩
      have ei : (4 : Int) + (i : Nat) * 6 = ((4 + 6 * i : Nat) : Int) := by omega
      have l2 : sizeLine = 16777216 := by decide
      have lp : (ps.map V.ref).length ≤ 501 := by rw [List.length_map, P2.2.1, List.length_cons, ptsAt_length]; omega
      refine ⟨_, rfl, .inl ⟨rfl, _, SqL.of P2.1⟩, _, rfl, _, rfl, a, l, 4 + 6 * i, ?_, s3.seq hS, hb, by omega, ?_⟩
      · show [V.ref a, V.int (4 + (i : Nat) * 6)] = _
        rw [ei]
      refine ⟨_, rfl, _, rfl, _, _, rfl, rfl, a, l, 4 + 6 * i + 4, ?_, s3.seq hS, hb, by omega, (by show 2 ≤ sizeLine; decide), fun u hu => ?_⟩
      · show [V.ref a, V.int (4 + (i : Nat) * 6 + 4)] = _
        rw [ei]
        rfl
      have P3 := P2.snoc (q := (b4 l (4 + 6 * i), b2 l (4 + 6 * i + 4))) hu
      refine ⟨d, _, _, rfl, rfl, (by rw [upd_ne (ne_of_none P2.1 hu)]; exact P2.1), (by omega), same_upd (same_upd s3 (s3.free hu)) hd0, ps ++ [u], _, rfl, ?_⟩
      rw [ptsAt_succ]
      exact P3
    · rintro σ H2 ⟨s3, ps, v, rfl, P2⟩
      exact ⟨_, rfl, k H2 d ps hd0 s3 P2⟩
theorem ok_gain_at {f : Addr} {fd : FuncData} (F : Fun K "gain_at" "gain_at" s_gain_at f fd) : FnOk P w K mg base CX0 1 f fd ["points", "tick"] (spGA K) := by
  refine F.ok sc_gain_at (fun vs H Q E h => ?_) (fun cdv A outer s H vs Q E hr h => ?_)
  · obtain ⟨p, ps, pts, t, g, rfl, hP, hl, hg, k⟩ := h
    rfl
  · obtain ⟨p, ps, pts, t, g, rfl, hP, hl, hg, k⟩ := h
    refine ⟨_, (pss_one (ps_ret (pe_ix (ix_listK (K := K) rfl) (pe_lc (own := [("point", 2)]) rfl sc_gain_at.nd (pi_listK (K := K) rfl (pv 0)) (blkOk_by (by show blkC ["points", "tick", "point"] (defScope s_gain_at) _ [("point", 2)] = true; decide +kernel)) (fun _ _ _ _ _ => (pg_name (i := 2) sc_gain_at.nd rfl (Or.inl rfl))) (fun _ _ _ _ _ => (pts_one (pt_cmpR op_le (pe_ix (ix_tupK (K := K) rfl) (pv 2) pe_int (fun _ _ => rfl)) (pv 1) (nomark _)))) (fun _ _ _ _ _ => (pe_ix (ix_tupK (K := K) rfl) (pv 2) pe_int (fun _ _ => rfl)))) (pe_un un_neg pe_int) (fun _ _ => rfl)))), ?_⟩
    refine ⟨_, rfl, p, rfl, ⟨_, SqL.of hP.1⟩, fun D n1 => lcp (ds := pts) (fun q => decide (q.1 ≤ t)) (fun q => V.int (q.2 : Int)) (by omega) (by rw [List.length_map]; exact hP.2.1) (SqL.of hP.1) n1 (fun i x q H1 hx hq s1 R N hR hN => ?_) fun H1 s1 h1 => ?_⟩
    · obtain ⟨b, e1, e2⟩ := hP.get hq
      have ex : x = V.ref b := Option.some.inj (hx.symm.trans e1)
      subst ex
      have e2 := s1 _ _ e2
      refine ⟨rfl, _, rfl, b, _, _, _, rfl, rfl, SqT.of e2, at_of (j := 0) rfl rfl, _, rfl, _, _, rfl, rfl, _, rfl, ite2 (fun c => ?_) (fun c => ?_)⟩
      · have c := of_decide_eq_true c
        exact ⟨_, rfl, b, _, _, _, rfl, rfl, SqT.of e2, at_of (j := 1) rfl rfl, hR (decide_eq_true (by omega)) _ (Same.refl _)⟩
      · have c := fun z => c (decide_eq_true z)
        exact hN (decide_eq_false fun z => c (by omega)) _ (Same.refl _)
    · refine ⟨_, rfl, D, _, _, _, rfl, rfl, SqL.of h1, at_last (v := V.int (g : Int)) ?_, k _ s1⟩
      unfold lastOf at hg
      have e : ((pts.filter fun q => decide (q.1 ≤ t)).map fun q => V.int (q.2 : Int)) = ((pts.filter fun q => decide (q.1 ≤ t)).map fun q => q.2).map fun (n : Nat) => V.int (n : Int) := by
        rw [List.map_map]
        rfl
      rw [e, List.getLast?_map, hg]
      rfl
theorem ok_ticks_of {f : Addr} {fd : FuncData} (F : Fun K "ticks_of" "ticks_of" s_ticks_of f fd) : FnOk P w K mg base CX0 1 f fd ["points"] (spTicks K) := by
  refine F.ok sc_ticks_of (fun vs H Q E h => ?_) (fun cdv A outer s H vs Q E hr h => ?_)
  · obtain ⟨p, ps, pts, rfl, hP, hl, k⟩ := h
    rfl
  · obtain ⟨p, ps, pts, rfl, hP, hl, k⟩ := h
    refine ⟨_, (pss_one (ps_ret (pe_lc (own := [("point", 1)]) rfl sc_ticks_of.nd (pi_listK (K := K) rfl (pv 0)) (blkOk_by (by show blkC ["points", "point"] (defScope s_ticks_of) _ [("point", 1)] = true; decide +kernel)) (fun _ _ _ _ _ => (pg_name (i := 1) sc_ticks_of.nd rfl (Or.inl rfl))) (fun _ _ _ _ _ => pts_nil) (fun _ _ _ _ _ => (pe_ix (ix_tupK (K := K) rfl) (pv 1) pe_int (fun _ _ => rfl)))))), ?_⟩
    refine ⟨_, rfl, p, rfl, ⟨_, SqL.of hP.1⟩, fun D n1 => lcp0 (ds := pts) (fun q => V.int (q.1 : Int)) (by omega) (by rw [List.length_map]; exact hP.2.1) (SqL.of hP.1) n1 (fun i x q H1 hx hq s1 R hR => ?_) fun H1 s1 h1 => ?_⟩
    · obtain ⟨b, e1, e2⟩ := hP.get hq
      have ex : x = V.ref b := Option.some.inj (hx.symm.trans e1)
      subst ex
      have e2 := s1 _ _ e2
      exact ⟨rfl, _, rfl, b, _, _, _, rfl, rfl, SqT.of e2, at_of (j := 0) rfl rfl, hR _ (Same.refl _)⟩
    · refine k H1 D n1 s1 ?_
      rw [h1, List.map_map]
      rfl
theorem ok_lane_ticks {f : Addr} {fd : FuncData} (F : Fun K "lane_ticks" "lane_ticks" s_lane_ticks f fd) (C_GREATEST_TICK : Cn mg "GREATEST_TICK" (16777215)) (B_sorted : mg "sorted" = none) (B_set : mg "set" = none) : FnOk P w K mg base CX0 1 f fd ["ticks"] (spLT K) := by
  refine F.ok sc_lane_ticks (fun vs H Q E h => ?_) (fun cdv A outer s H vs Q E hr h => ?_)
  · obtain ⟨a, ns, rfl, hS, hl, k⟩ := h
    rfl
  · obtain ⟨a, ns, rfl, hS, hl, k⟩ := h
    refine ⟨_, (pss_one (ps_ret (pe_lc (own := [("tick", 1)]) rfl sc_lane_ticks.nd (pi_listK (K := K) rfl (pe_callB (call_sortedS (P := P) (w := w) rfl rfl rfl) (by rfl) B_sorted (by decide +kernel) (pa_cons (pe_callTy (call_setI (P := P) (w := w) (K := K) rfl rfl rfl rfl) (by rfl) B_set (by decide +kernel) (pa_cons (pv 0) pa_nil)) pa_nil))) (blkOk_by (by show blkC ["ticks", "tick"] (defScope s_lane_ticks) _ [("tick", 1)] = true; decide +kernel)) (fun _ _ _ _ _ => (pg_name (i := 1) sc_lane_ticks.nd rfl (Or.inl rfl))) (fun _ _ _ _ _ => (pts_one (pt_chain op_le op_le pe_int (pv 1) (pe_cn C_GREATEST_TICK)))) (fun _ _ _ _ _ => (pv 1))))), ?_⟩
    have u3 := (uniq_facts ns).2.2
    refine ⟨_, rfl, a, ns, rfl, hS, hl, fun p hp => ⟨p, uniq ns, rfl, upd_same, (by omega), fun ms q hpm hst hq => ?_⟩⟩
    have s1 : Same H (upd H p (setO P w p (uniq ns))) := same_upd0 hp
    have s2 : Same H (upd (upd H p (setO P w p (uniq ns))) q (.lst (ms.map V.int))) := same_upd s1 (s1.free hq)
    obtain ⟨S, e1, e2, e3⟩ := ticks_sorted hpm hst
    refine ⟨q, rfl, ⟨_, SqL.of upd_same⟩, fun D n1 => lcl (ns := ms) isTick V.int (by rw [hpm.length_eq]; omega) (SqL.of upd_same) n1 (fun i n H1 hn s3 R N hR hN => ?_) fun H1 s3 h1 => ?_⟩
    · refine ⟨rfl, _, rfl, _, _, rfl, rfl, _, rfl, ite2 (fun c => ?_) (fun c => ?_)⟩
      · refine ⟨_, _, rfl, rfl, _, rfl, ite2 (fun c2 => ?_) (fun c2 => ?_)⟩
        · refine ⟨_, rfl, hR ?_ _ (Same.refl _)⟩
          have c := of_decide_eq_true c
          have c2 := of_decide_eq_true c2
          unfold isTick
          rw [decide_eq_true c, decide_eq_true c2]
          rfl
        · refine hN ?_ _ (Same.refl _)
          unfold isTick
          rw [show decide (n ≤ 16777215) = false from Bool.not_eq_true _ ▸ c2, Bool.and_false]
      · refine ⟨_, rfl, iteF (hN ?_ _ (Same.refl _))⟩
        unfold isTick
        rw [show decide (0 ≤ n) = false from Bool.not_eq_true _ ▸ c, Bool.false_and]
    · refine k S e2 (by omega) H1 D (s2.free n1) (s2.trans s3) ?_
      rw [h1, e1]
theorem ok_fewest {f : Addr} {fd : FuncData} (F : Fun K "fewest" "fewest" s_fewest f fd) (B_range : mg "range" = none) (B_len : mg "len" = none) : FnOk P w K mg base CX0 1 f fd ["points"] (spFew K) := by
  refine F.ok sc_fewest (fun vs H Q E h => ?_) (fun cdv A outer s H vs Q E hr h => ?_)
  · obtain ⟨p, ps, x, l, rfl, hP, hl, k⟩ := h
    rfl
  · obtain ⟨p, ps, x, l, rfl, hP, hl, k⟩ := h
    refine ⟨_, (pss_one (ps_ret (pe_lc (own := [("i", 1)]) rfl sc_fewest.nd (pi_range1 rfl B_range (pa_cons (pe_callB (call_lenK (K := K) rfl) (by rfl) B_len PySem.boot_len (pa_cons (pv 0) pa_nil)) pa_nil)) (blkOk_by (by show blkC ["points", "i"] (defScope s_fewest) _ [("i", 1)] = true; decide +kernel)) (fun _ _ _ _ _ => (pg_name (i := 1) sc_fewest.nd rfl (Or.inl rfl))) (fun _ _ _ _ _ => (pts_one (PW.pt (pw_or (pt_cmpR op_eq (pv 1) pe_int (nomark _)) (pw_or1 (pt_cmpR op_ne (pe_ix (ix_tupK (K := K) rfl) (pe_ix (ix_listK (K := K) rfl) (pv 0) (pv 1) (fun _ _ => rfl)) pe_int (fun _ _ => rfl)) (pe_ix (ix_tupK (K := K) rfl) (pe_ix (ix_listK (K := K) rfl) (pv 0) (pe_op op_sub (pv 1) pe_int) (fun _ _ => rfl)) pe_int (fun _ _ => rfl)) (nomark _))))))) (fun _ _ _ _ _ => (pe_ix (ix_listK (K := K) rfl) (pv 0) (pv 1) (fun _ _ => rfl)))))), ?_⟩
    have ln : (ps.map V.ref).length = (x :: l).length := by rw [List.length_map]; exact hP.2.1
    have l2 : sizeLine = 16777216 := by decide
    have get : ∀ i, i < (x :: l).length → ∃ b, (ps.map V.ref)[i]? = some (V.ref b) ∧ ps[i]? = some b ∧ H b = some (.tup [.int (((x :: l).getD i (0, 0)).1 : Int), .int (((x :: l).getD i (0, 0)).2 : Int)]) := by
      intro i hi
      have e : (x :: l)[i]? = some ((x :: l).getD i (0, 0)) := by rw [List.getD_eq_getElem?_getD, List.getElem?_eq_getElem hi]; rfl
      have hi2 : i < ps.length := by rw [hP.2.1]; exact hi
      have e2 : ps[i]? = some ps[i] := List.getElem?_eq_getElem hi2
      exact ⟨ps[i], by rw [List.getElem?_map, e2]; rfl, e2, hP.2.2 i _ _ e e2⟩
    refine ⟨_, rfl, p, _, rfl, .inl (SqL.of hP.1), _, rfl, (by omega), (by omega), fun D n1 => lcr (n := (ps.map V.ref).length) (isFew (x :: l)) (fun i => V.ref (ps.getD i 0)) (by omega) n1 (fun i H1 hi s1 R N hR hN => ?_) fun H1 s1 h1 => ?_⟩
    · have hi1 : i < (x :: l).length := by omega
      obtain ⟨b, g1, g2, g3⟩ := get i hi1
      have gD : ps.getD i 0 = b := by rw [List.getD_eq_getElem?_getD, g2]; rfl
      have hP1 := hP.mono s1
      have elt : isFew (x :: l) i = true → R (V.ref b) H1 := fun z => by
        have q := hR z H1 (Same.refl _)
        rw [gD] at q
        exact q
      refine ⟨rfl, _, rfl, rfl, _, rfl, ite2 (fun c => ?_) (fun c => ?_)⟩
      · have c : (0 : Int) + (i : Int) = 0 := V.int.inj (of_decide_eq_true c)
        refine iteT ⟨_, rfl, _, rfl, p, _, _, _, rfl, rfl, SqL.of hP1.1, at_of (j := i) (Int.zero_add _) g1, elt ?_⟩
        unfold isFew
        rw [decide_eq_true (show i = 0 by omega), Bool.true_or]
      · have c : ¬ (0 : Int) + (i : Int) = 0 := fun z => c (decide_eq_true (congrArg V.int z))
        obtain ⟨b', g1', g2', g3'⟩ := get (i - 1) (by omega)
        refine ⟨_, rfl, _, rfl, p, _, _, _, rfl, rfl, SqL.of hP1.1, at_of (j := i) (Int.zero_add _) g1, b, _, _, _, rfl, rfl, SqT.of (s1 _ _ g3), at_of (j := 1) rfl rfl, ?_⟩
        refine ⟨_, rfl, _, rfl, _, _, rfl, rfl, p, _, _, _, rfl, rfl, SqL.of hP1.1, at_of (j := i - 1) (by omega) g1', b', _, _, _, rfl, rfl, SqT.of (s1 _ _ g3'), at_of (j := 1) rfl rfl, rfl, _, rfl, ite2 (fun c2 => ?_) (fun c2 => ?_)⟩
        · refine ⟨_, rfl, _, rfl, p, _, _, _, rfl, rfl, SqL.of hP1.1, at_of (j := i) (Int.zero_add _) g1, elt ?_⟩
          unfold isFew
          rw [Bool.or_eq_true]
          refine .inr (decide_eq_true fun z => ?_)
          rw [z] at c2
          simp at c2
        · refine hN ?_ _ (Same.refl _)
          unfold isFew
          rw [decide_eq_false (show ¬ i = 0 by omega), Bool.false_or]
          refine decide_eq_false fun z => c2 ?_
          rw [Bool.not_eq_true', decide_eq_false_iff_not]
          intro y
          have y := V.int.inj y
          omega
    · refine k H1 D ((few (x :: l)).map fun i => ps.getD i 0) n1 s1 ⟨?_, ?_, fun i q b h2 h3 => ?_⟩
      · rw [h1, ln, List.map_map]
        rfl
      · rw [List.length_map, few_length, List.length_cons]
      · rw [← few_thin, List.getElem?_map] at h2
        rw [List.getElem?_map] at h3
        cases e : (few (x :: l))[i]? with
        | none =>
          rw [e] at h2
          cases h2
        | some j =>
          rw [e] at h2 h3
          have hj : j < (x :: l).length := List.mem_range.mp (List.mem_filter.mp (List.mem_of_getElem? e)).1
          obtain ⟨c, g1, g2, g3⟩ := get j hj
          have gD : ps.getD j 0 = c := by rw [List.getD_eq_getElem?_getD, g2]; rfl
          have h2 : (x :: l).getD j (0, 0) = q := Option.some.inj h2
          have h3 : ps.getD j 0 = b := Option.some.inj h3
          rw [← h3, gD, ← h2]
          exact s1 _ _ g3
theorem ok_low_first {f : Addr} {fd : FuncData} (F : Fun K "low_first" "low_first" s_low_first f fd) (B_range : mg "range" = none) : FnOk P w K mg base CX0 1 f fd ["number", "many"] spLow := by
  refine F.ok sc_low_first (fun vs H Q E h => ?_) (fun cdv A outer s H vs Q E hr h => ?_)
  · obtain ⟨n, k0, rfl, hk, k⟩ := h
    rfl
  · obtain ⟨n, k0, rfl, hk, k⟩ := h
    refine ⟨_, (pss_cons (ps_set (i := 2) sc_low_first.nd rfl (Or.inl rfl) (pe_lst pa_nil))
      (pss_cons (ps_set (i := 3) sc_low_first.nd rfl (Or.inl rfl) (pv 0))
      (pss_cons (ps_for PassesOwn.never rfl (pi_range1 rfl B_range (pa_cons (pv 1) pa_nil)) (pg_name (i := 4) sc_low_first.nd rfl (Or.inl rfl)) (pss_cons (ps_expr (pe_bm PySem.F.plainAttrs_list PySem.F.slot_list_append PySem.F.type_list_append mt_append (pv 2) (pa_cons (pe_op op_mod (pv 3) pe_int) pa_nil)))
      (pss_one (ps_set (i := 3) sc_low_first.nd rfl (Or.inl rfl) (pe_op op_fdiv (pv 3) pe_int)))))
      (pss_one (ps_ret (pv 2)))))), ?_⟩
    have l2 : sizeLine = 16777216 := by decide
    refine ⟨(by decide), fun d hd => ?_⟩
    refine ⟨_, rfl, ?_⟩
    refine ⟨_, rfl, _, rfl, (by omega), (by omega), for_range (n := k0) (fun i σ H2 => Same H H2 ∧ H2 d = some (.lst ((lows n i).map V.int)) ∧ ∃ v : Option V, [some (V.int (n : Int)), some (V.int (k0 : Int)), some (V.ref d), some (V.int ((n / 256 ^ i : Nat) : Int)), v] = σ) ⟨same_upd0 hd, upd_same, none, ?_⟩ ?_ ?_⟩
    · rw [Nat.pow_zero, Nat.div_one]
      rfl
    · rintro i σ H2 hi ⟨s2, h2, v, rfl⟩
      refine ⟨_, rfl, .inl ⟨rfl, _, SqL.of h2⟩, _, rfl, _, _, rfl, rfl, (by show (0 : Int) < 256; decide), d, _, _, rfl, rfl, h2, (by rw [List.length_map, lows_length]; omega), ?_⟩
      refine ⟨_, rfl, _, _, rfl, rfl, ⟨by decide, by decide⟩, same_upd s2 hd, ?_, some (V.int (0 + (i : Int))), ?_⟩
      · rw [upd_same, lows_succ, List.map_append]
        rfl
      · rw [← lows_rest]
        rfl
    · rintro σ H2 ⟨s2, h2, v, rfl⟩
      exact ⟨_, rfl, k H2 d hd s2 h2⟩
theorem ok_bytes_of {f : Addr} {fd : FuncData} (F : Fun K "bytes_of" "bytes_of" s_bytes_of f fd) {f_low_first : Addr} {fd_low_first : FuncData} (G_low_first : FnOk P w K mg base CX0 1 f_low_first fd_low_first ["number", "many"] spLow) (D_low_first : Df K mg "low_first" s_low_first ["number", "many"] f_low_first fd_low_first) (C_GAIN_BYTES : Cn mg "GAIN_BYTES" (2)) (C_COUNT_BYTES : Cn mg "COUNT_BYTES" (2)) (C_TICK_BYTES : Cn mg "TICK_BYTES" (4)) (B_len : mg "len" = none) : FnOk P w K mg base CX0 2 f fd ["points"] (spBytes K) := by
  refine F.ok sc_bytes_of (fun vs H Q E h => ?_) (fun cdv A outer s H vs Q E hr h => ?_)
  · obtain ⟨p, ps, x, l, rfl, hP, hl, k⟩ := h
    rfl
  · obtain ⟨p, ps, x, l, rfl, hP, hl, k⟩ := h
    refine ⟨_, (pss_cons (ps_set (i := 1) sc_bytes_of.nd rfl (Or.inl rfl) (pe_op op_cat (pe_fn G_low_first D_low_first (hr.mono (by decide)) (pa_cons (pe_ix (ix_tupK (K := K) rfl) (pe_ix (ix_listK (K := K) rfl) (pv 0) pe_int (fun _ _ => rfl)) pe_int (fun _ _ => rfl)) (pa_cons (pe_cn C_GAIN_BYTES) pa_nil))) (pe_fn G_low_first D_low_first (hr.mono (by decide)) (pa_cons (pe_op op_sub (pe_callB (call_lenK (K := K) rfl) (by rfl) B_len PySem.boot_len (pa_cons (pv 0) pa_nil)) pe_int) (pa_cons (pe_cn C_COUNT_BYTES) pa_nil)))))
      (pss_cons (ps_for PassesOwn.never rfl (pi_listK (K := K) rfl (pe_slice (sl_listK (K := K) rfl) (pv 0) (po_some pe_int) po_none)) (pg_name (i := 2) sc_bytes_of.nd rfl (Or.inl rfl)) (pss_one (ps_set (i := 1) sc_bytes_of.nd rfl (Or.inl rfl) (pe_op op_cat (pe_op op_cat (pv 1) (pe_fn G_low_first D_low_first (hr.mono (by decide)) (pa_cons (pe_ix (ix_tupK (K := K) rfl) (pv 2) pe_int (fun _ _ => rfl)) (pa_cons (pe_cn C_TICK_BYTES) pa_nil)))) (pe_fn G_low_first D_low_first (hr.mono (by decide)) (pa_cons (pe_ix (ix_tupK (K := K) rfl) (pv 2) pe_int (fun _ _ => rfl)) (pa_cons (pe_cn C_GAIN_BYTES) pa_nil)))))))
      (pss_one (ps_ret (pv 1))))), ?_⟩
    have l2 : sizeLine = 16777216 := by decide
    have ln := hP.len
    obtain ⟨b0, i0, h0⟩ := hP.get (i := 0) (q := x) rfl
    refine ⟨_, rfl, p, _, _, _, rfl, rfl, SqL.of hP.1, at_of (j := 0) rfl i0, b0, _, _, _, rfl, rfl, SqT.of h0, at_of (j := 1) rfl rfl, ?_⟩
    refine ⟨x.2, 2, rfl, by decide, fun H1 d1 n1 s1 h1 => ?_⟩
    have hP1 := hP.mono s1
    refine ⟨_, rfl, p, _, rfl, .inl (SqL.of hP1.1), _, _, rfl, rfl, ?_⟩
    refine ⟨l.length, 2, ?_, by decide, fun H2 d2 n2 s2 h2 => ?_⟩
    · show [V.int ((((ps.map V.ref).length : Nat) : Int) - 1), V.int 2] = _
      rw [ln, show ((l.length + 1 : Nat) : Int) - 1 = (l.length : Int) by omega]
      rfl
    have hP2 := hP1.mono s2
    refine ⟨d1, d2, _, _, rfl, rfl, s2 _ _ h1, h2, (by rw [List.length_map, List.length_map, lows_length, lows_length]; omega), fun d hd => ?_⟩
    have s02 := s1.trans s2
    have s03 : Same H (upd H2 d (.lst ((lows x.2 2).map V.int ++ (lows l.length 2).map V.int))) := same_upd s02 (s02.free hd)
    have s23 : Same H2 (upd H2 d (.lst ((lows x.2 2).map V.int ++ (lows l.length 2).map V.int))) := same_upd0 hd
    have hP3 := hP2.mono s23
    refine ⟨_, rfl, _, rfl, p, _, rfl, SqL.of hP3.1, fun q hq => ?_⟩
    have s34 : Same (upd H2 d (.lst ((lows x.2 2).map V.int ++ (lows l.length 2).map V.int))) (upd (upd H2 d (.lst ((lows x.2 2).map V.int ++ (lows l.length 2).map V.int))) q (.lst (cutV (ps.map V.ref) (some 1) none))) := same_upd0 hq
    have s04 := s03.trans s34
    have hq4 : (upd (upd H2 d (.lst ((lows x.2 2).map V.int ++ (lows l.length 2).map V.int))) q (.lst (cutV (ps.map V.ref) (some 1) none))) q = some (.lst ((ps.map V.ref).drop 1)) := by rw [upd_same, cut_one]
    have hlen : ((ps.map V.ref).drop 1).length = l.length := by rw [List.length_drop, ln]; omega
    refine ⟨q, rfl, ⟨_, SqL.of upd_same⟩, for_list (K := K) (a := q) (xs := (ps.map V.ref).drop 1) (fun i σ H5 => Same H H5 ∧ H5 q = some (.lst ((ps.map V.ref).drop 1)) ∧ ∃ (u : Addr) (v : Option V), H u = none ∧ H5 u = some (.lst ((laneUp x.2 l.length (l.take i)).map V.int)) ∧ [some (V.ref p), some (V.ref u), v] = σ) ⟨s04, hq4, d, none, s02.free hd, ?_, rfl⟩ (fun i σ H5 _ z => SqL.of z.2.1) ?_ ?_⟩
    · refine s34 _ _ ?_
      rw [upd_same, lows_two, lows_two, ← List.map_append]
      show _ = some (HO.lst ((laneUp x.2 l.length []).map V.int))
      unfold laneUp
      rw [List.flatMap_nil, List.append_nil]
    · rintro i y σ H5 hi ⟨s5, h5, u, v, nu, hu, rfl⟩
      have hi2 : i < l.length := by rw [← hlen]; exact (List.getElem?_eq_some_iff.mp hi).1
      obtain ⟨b, q2, e1, e2, e3⟩ := hP.tail hi
      subst e2
      have e3 := s5 _ _ e3
      have lu := laneUp_length x.2 l.length (l.take i)
      rw [List.length_take] at lu
      refine ⟨_, rfl, _, rfl, b, _, _, _, rfl, rfl, SqT.of e3, at_of (j := 0) rfl rfl, ?_⟩
      refine ⟨q2.1, 4, rfl, by decide, fun H6 d6 n6 s6 h6 => ?_⟩
      refine ⟨u, d6, _, _, rfl, rfl, s6 _ _ hu, h6, (by rw [List.length_map, List.length_map, lows_length]; omega), fun d7 n7 => ?_⟩
      have s7 : Same H6 (upd H6 d7 (.lst ((laneUp x.2 l.length (l.take i)).map V.int ++ (lows q2.1 4).map V.int))) := same_upd0 n7
      refine ⟨_, rfl, b, _, _, _, rfl, rfl, SqT.of (s7 _ _ (s6 _ _ e3)), at_of (j := 1) rfl rfl, ?_⟩
      refine ⟨q2.2, 2, rfl, by decide, fun H8 d8 n8 s8 h8 => ?_⟩
      refine ⟨d7, d8, _, _, rfl, rfl, s8 _ _ upd_same, h8, (by rw [List.length_append, List.length_map, List.length_map, List.length_map, lows_length, lows_length]; omega), fun d9 n9 => ?_⟩
      have s09 : Same H H8 := ((s5.trans s6).trans s7).trans s8
      have s58 : Same H5 H8 := (s6.trans s7).trans s8
      have n95 : H5 d9 = none := s58.free n9
      refine ⟨same_upd s09 (s09.free n9), ?_, d9, _, s09.free n9, ?_, rfl⟩
      · rw [upd_ne (ne_of_none h5 n95)]
        exact s58 _ _ h5
      · rw [upd_same, take_snoc e1, laneUp_snoc, lows_two, lows_four, List.map_append, List.map_append]
    · rintro σ H5 ⟨s5, h5, u, v, nu, hu, rfl⟩
      rw [hlen, List.take_length] at hu
      exact ⟨_, rfl, k H5 u nu s5 hu⟩
theorem ok_lane_refusal {f : Addr} {fd : FuncData} (F : Fun K "lane_refusal" "lane_refusal" s_lane_refusal f fd) {f_refusal : Addr} {fd_refusal : FuncData} (G_refusal : FnOk P w K mg base CX0 2 f_refusal fd_refusal ["number"] spRefusal) (D_refusal : Df K mg "refusal" s_refusal ["number"] f_refusal fd_refusal) {f_lane_fault : Addr} {fd_lane_fault : FuncData} (G_lane_fault : FnOk P w K mg base CX0 4 f_lane_fault fd_lane_fault ["l"] (spLF K)) (D_lane_fault : Df K mg "lane_fault" s_lane_fault ["l"] f_lane_fault fd_lane_fault) {f_answer : Addr} {fd_answer : FuncData} (G_answer : FnOk P w K mg base CX0 1 f_answer fd_answer ["number", "told"] spAnswer) (D_answer : Df K mg "answer" s_answer ["number", "told"] f_answer fd_answer) (C_MOST_LANE_BYTES : Cn mg "MOST_LANE_BYTES" (1024)) (C_TOO_MANY : Cn mg "TOO_MANY" (-2)) (C_NO_LANE : Cn mg "NO_LANE" (-6)) (B_len : mg "len" = none) : FnOk P w K mg base CX0 5 f fd ["l"] (spLR K) := by
  refine F.ok sc_lane_refusal (fun vs H Q E h => ?_) (fun cdv A outer s H vs Q E hr h => ?_)
  · obtain ⟨a, l, rfl, hS, hb, k1, k2⟩ := h
    rfl
  · obtain ⟨a, l, rfl, hS, hb, k1, k2⟩ := h
    refine ⟨_, (pss_cons (ps_if (pt_cmpR op_gt (pe_callB (call_lenK (K := K) rfl) (by rfl) B_len PySem.boot_len (pa_cons (pv 0) pa_nil)) (pe_cn C_MOST_LANE_BYTES) (nomark _)) (pss_one (ps_ret (pe_fn G_refusal D_refusal (hr.mono (by decide)) (pa_cons (pe_cn C_TOO_MANY) pa_nil)))) pss_nil)
      (pss_cons (ps_set (i := 1) sc_lane_refusal.nd rfl (Or.inl rfl) (pe_fn G_lane_fault D_lane_fault (hr.mono (by decide)) (pa_cons (pv 0) pa_nil)))
      (pss_cons (ps_if (pt_cmpR op_notN (pv 1) pe_non (nomark _)) (pss_one (ps_ret (pe_fn G_answer D_answer (hr.mono (by decide)) (pa_cons (pe_cn C_NO_LANE) (pa_cons (pv 1) pa_nil))))) pss_nil)
      (pss_one (ps_ret pe_non))))), ?_⟩
    have ln : (l.map V.int).length = l.length := List.length_map ..
    refine ⟨_, rfl, a, _, rfl, .inl hS, _, _, rfl, rfl, _, rfl, ite2 (fun c => ?_) (fun c => ?_)⟩
    · have c := of_decide_eq_true c
      rw [ln] at c
      exact ⟨_, rfl, k1 (by omega)⟩
    have c := fun z => c (decide_eq_true z)
    rw [ln] at c
    have c : ¬ 1024 < l.length := fun z => c (by omega)
    obtain ⟨k2, k3⟩ := k2 c
    refine ⟨_, rfl, a, l, rfl, hS, hb, fun e he => ?_, fun he => ?_⟩
    · intro H3 q hq s3 h3
      refine ⟨_, rfl, rfl, _, rfl, ite2 (fun _ => ?_) (fun z => (z is_ref).elim)⟩
      exact ⟨_, rfl, _, q, [(e.1 : Int), (e.2 : Int)], rfl, h3, (by show 2 ≤ 100000; decide), (k2 e he).mono s3⟩
    · exact ⟨_, rfl, rfl, _, rfl, ite2 (fun z => (is_non z).elim) (fun _ => k3 he)⟩
theorem ok_lane_answer {f : Addr} {fd : FuncData} (F : Fun K "lane_answer" "lane_answer" s_lane_answer f fd) {f_bytes_answer : Addr} {fd_bytes_answer : FuncData} (G_bytes_answer : FnOk P w K mg base CX0 1 f_bytes_answer fd_bytes_answer ["told"] spBA) (D_bytes_answer : Df K mg "bytes_answer" s_bytes_answer ["told"] f_bytes_answer fd_bytes_answer) {f_bytes_of : Addr} {fd_bytes_of : FuncData} (G_bytes_of : FnOk P w K mg base CX0 2 f_bytes_of fd_bytes_of ["points"] (spBytes K)) (D_bytes_of : Df K mg "bytes_of" s_bytes_of ["points"] f_bytes_of fd_bytes_of) {f_fewest : Addr} {fd_fewest : FuncData} (G_fewest : FnOk P w K mg base CX0 1 f_fewest fd_fewest ["points"] (spFew K)) (D_fewest : Df K mg "fewest" s_fewest ["points"] f_fewest fd_fewest) {f_refusal : Addr} {fd_refusal : FuncData} (G_refusal : FnOk P w K mg base CX0 2 f_refusal fd_refusal ["number"] spRefusal) (D_refusal : Df K mg "refusal" s_refusal ["number"] f_refusal fd_refusal) (C_MOST_POINTS : Cn mg "MOST_POINTS" (64)) (C_TOO_MANY_POINTS : Cn mg "TOO_MANY_POINTS" (-3)) (B_len : mg "len" = none) : FnOk P w K mg base CX0 3 f fd ["turns"] (spLA K) := by
  refine F.ok sc_lane_answer (fun vs H Q E h => ?_) (fun cdv A outer s H vs Q E hr h => ?_)
  · obtain ⟨p, ps, x, l, rfl, hP, hl, k⟩ := h
    rfl
  · obtain ⟨p, ps, x, l, rfl, hP, hl, k⟩ := h
    refine ⟨_, (pss_cons (ps_set (i := 1) sc_lane_answer.nd rfl (Or.inl rfl) (pe_fn G_fewest D_fewest (hr.mono (by decide)) (pa_cons (pv 0) pa_nil)))
      (pss_cons (ps_if (pt_cmpR op_gt (pe_op op_sub (pe_callB (call_lenK (K := K) rfl) (by rfl) B_len PySem.boot_len (pa_cons (pv 1) pa_nil)) pe_int) (pe_cn C_MOST_POINTS) (nomark _)) (pss_one (ps_ret (pe_fn G_refusal D_refusal (hr.mono (by decide)) (pa_cons (pe_cn C_TOO_MANY_POINTS) pa_nil)))) pss_nil)
      (pss_one (ps_ret (pe_fn G_bytes_answer D_bytes_answer (hr.mono (by decide)) (pa_cons (pe_fn G_bytes_of D_bytes_of (hr.mono (by decide)) (pa_cons (pv 1) pa_nil)) pa_nil)))))), ?_⟩
    refine ⟨_, rfl, p, ps, x, l, rfl, hP, hl, fun H1 q qs n1 s1 P1 => ?_⟩
    have ln := P1.len
    refine ⟨_, rfl, q, _, rfl, .inl (SqL.of P1.1), _, _, rfl, rfl, _, _, rfl, rfl, _, rfl, ite2 (fun c => ?_) (fun c => ?_)⟩
    · have c := of_decide_eq_true c
      rw [ln] at c
      exact ⟨_, rfl, (k.mono s1).eq (laneTold_many (by omega))⟩
    · have c := fun z => c (decide_eq_true z)
      rw [ln] at c
      have c : (thin x.2 l).length ≤ 64 := Nat.le_of_not_lt fun z => c (by omega)
      refine ⟨_, rfl, q, qs, x, thin x.2 l, rfl, P1, c, fun H2 d n2 s2 h2 => ?_⟩
      refine ⟨d, _, rfl, h2, (by rw [laneUp_length]; omega), ((k.mono s1).mono s2).eq (laneTold_few c)⟩
theorem ok_pass_refusal {f : Addr} {fd : FuncData} (F : Fun K "pass_refusal" "pass_refusal" s_pass_refusal f fd) {f_refusal : Addr} {fd_refusal : FuncData} (G_refusal : FnOk P w K mg base CX0 2 f_refusal fd_refusal ["number"] spRefusal) (D_refusal : Df K mg "refusal" s_refusal ["number"] f_refusal fd_refusal) {f_lane_refusal : Addr} {fd_lane_refusal : FuncData} (G_lane_refusal : FnOk P w K mg base CX0 5 f_lane_refusal fd_lane_refusal ["l"] (spLR K)) (D_lane_refusal : Df K mg "lane_refusal" s_lane_refusal ["l"] f_lane_refusal fd_lane_refusal) {f_are_events : Addr} {fd_are_events : FuncData} (G_are_events : FnOk P w K mg base CX0 1 f_are_events fd_are_events ["a", "b", "e"] (spAE K)) (D_are_events : Df K mg "are_events" s_are_events ["a", "b", "e"] f_are_events fd_are_events) (C_MOST_EVENT_NUMBERS : Cn mg "MOST_EVENT_NUMBERS" (192)) (C_TOO_MANY : Cn mg "TOO_MANY" (-2)) (C_LONGEST_WAY_BACK : Cn mg "LONGEST_WAY_BACK" (16)) (C_TRIM_MODE : Cn mg "TRIM_MODE" (4)) (C_TICKS_END : Cn mg "TICKS_END" (16777216)) (C_OUT_OF_BOUNDS : Cn mg "OUT_OF_BOUNDS" (-1)) (B_len : mg "len" = none) : FnOk P w K mg base CX0 6 f fd ["a", "b", "mode", "back", "l", "e"] (spPassR K) := by
  refine F.ok sc_pass_refusal (fun vs H Q E h => ?_) (fun cdv A outer s H vs Q E hr h => ?_)
  · obtain ⟨a, b, m, g, p, q, l, e, rfl, hS, hT, hb, he, hl, ⟨a0, b0⟩, k1, k2⟩ := h
    rfl
  · obtain ⟨a, b, m, g, p, q, l, e, rfl, hS, hT, hb, he, hl, ⟨a0, b0⟩, k1, k2⟩ := h
    refine ⟨_, (pss_cons (ps_if (pt_cmpR op_gt (pe_callB (call_lenK (K := K) rfl) (by rfl) B_len PySem.boot_len (pa_cons (pv 5) pa_nil)) (pe_cn C_MOST_EVENT_NUMBERS) (nomark _)) (pss_one (ps_ret (pe_fn G_refusal D_refusal (hr.mono (by decide)) (pa_cons (pe_cn C_TOO_MANY) pa_nil)))) pss_nil)
      (pss_cons (ps_set (i := 6) sc_pass_refusal.nd rfl (Or.inl rfl) (pe_fn G_lane_refusal D_lane_refusal (hr.mono (by decide)) (pa_cons (pv 4) pa_nil)))
      (pss_cons (ps_if (pt_cmpR op_notN (pv 6) pe_non (nomark _)) (pss_one (ps_ret (pv 6))) pss_nil)
      (pss_cons (ps_if (PW.pt (pw_or (pt_cmpR op_gt (pv 0) (pv 1) (nomark _)) (pw_or (pt_cmpR op_gt (pv 1) (pe_cn C_TICKS_END) (nomark _)) (pw_or (pt_cmpR op_gt (pv 2) (pe_cn C_TRIM_MODE) (nomark _)) (pw_or (pt_cmpR op_gt (pv 3) (pe_cn C_LONGEST_WAY_BACK) (nomark _)) (pw_or1 (pt_not (pt_val (pe_fn G_are_events D_are_events (hr.mono (by decide)) (pa_cons (pv 0) (pa_cons (pv 1) (pa_cons (pv 5) pa_nil)))))))))))) (pss_one (ps_ret (pe_fn G_refusal D_refusal (hr.mono (by decide)) (pa_cons (pe_cn C_OUT_OF_BOUNDS) pa_nil)))) pss_nil)
      (pss_one (ps_ret pe_non)))))), ?_⟩
    have ln : (e.map V.int).length = e.length := List.length_map ..
    refine ⟨_, rfl, q, _, rfl, .inl hT, _, _, rfl, rfl, _, rfl, ite2 (fun c => ?_) (fun c => ?_)⟩
    · have c := of_decide_eq_true c
      rw [ln] at c
      exact ⟨_, rfl, k1 (.inl (by omega))⟩
    have c := fun z => c (decide_eq_true z)
    rw [ln] at c
    have ce : ¬ 192 < e.length := fun z => c (by omega)
    refine ⟨_, rfl, p, l, rfl, hS, hb, fun c => ?_, fun c => ⟨fun z hz => ?_, fun hz => ?_⟩⟩
    · intro H3 r hr2 s3 h3
      refine ⟨_, rfl, rfl, _, rfl, ite2 (fun _ => ?_) (fun z => (z is_ref).elim)⟩
      exact ⟨_, rfl, k1 (.inr c) H3 r hr2 s3 h3⟩
    · intro H3 r hr2 s3 h3
      refine ⟨_, rfl, rfl, _, rfl, ite2 (fun _ => ?_) (fun z => (z is_ref).elim)⟩
      exact ⟨_, rfl, (k2 ce c).1 z hz H3 r hr2 s3 h3⟩
    obtain ⟨k3, k4⟩ := (k2 ce c).2 hz
    refine ⟨_, rfl, rfl, _, rfl, ite2 (fun z => (is_non z).elim) (fun _ => ?_)⟩
    have no : ¬ (a ≤ b ∧ b ≤ 16777216 ∧ m ≤ 4 ∧ g ≤ 16 ∧ evOk a.toNat b.toNat e = true) → Gives H Q [-1, 0, 0] := fun z => k3 (by
      rw [Bool.eq_false_iff]
      intro y
      unfold fineI at y
      rw [Bool.and_eq_true, Bool.and_eq_true, Bool.and_eq_true, Bool.and_eq_true, decide_eq_true_eq, decide_eq_true_eq, decide_eq_true_eq, decide_eq_true_eq] at y
      exact z y)
    refine ⟨_, rfl, _, rfl, _, _, rfl, rfl, _, rfl, ite2 (fun c => ?_) (fun c => ?_)⟩
    · have c := of_decide_eq_true c
      exact iteT ⟨_, rfl, no (fun z => by omega)⟩
    have c1 : ¬ b < a := fun z => c (decide_eq_true z)
    refine ⟨_, rfl, _, _, rfl, rfl, _, rfl, ite2 (fun c => ?_) (fun c => ?_)⟩
    · have c : (16777216 : Int) < b := of_decide_eq_true c
      exact iteT ⟨_, rfl, no (fun z => by omega)⟩
    have c2 : ¬ (16777216 : Int) < b := fun z => c (decide_eq_true z)
    refine ⟨_, rfl, _, _, rfl, rfl, _, rfl, ite2 (fun c => ?_) (fun c => ?_)⟩
    · have c : (4 : Int) < m := of_decide_eq_true c
      exact iteT ⟨_, rfl, no (fun z => by omega)⟩
    have c3 : ¬ (4 : Int) < m := fun z => c (decide_eq_true z)
    refine ⟨_, rfl, _, _, rfl, rfl, _, rfl, ite2 (fun c => ?_) (fun c => ?_)⟩
    · have c : (16 : Int) < g := of_decide_eq_true c
      exact iteT ⟨_, rfl, no (fun z => by omega)⟩
    have c4 : ¬ (16 : Int) < g := fun z => c (decide_eq_true z)
    refine ⟨_, rfl, _, rfl, _, rfl, a, b, q, e, rfl, hT, he, hl, a0, b0, _, rfl, ?_⟩
    cases ev : evOk a.toNat b.toNat e with
    | false => exact iteT ⟨_, rfl, no (fun z => by rw [ev] at z; cases z.2.2.2.2)⟩
    | true =>
      refine iteF (k4 ?_)
      unfold fineI
      rw [ev, decide_eq_true (show a ≤ b by omega), decide_eq_true (show b ≤ 16777216 by omega), decide_eq_true (show m ≤ 4 by omega), decide_eq_true (show g ≤ 16 by omega)]
      rfl
theorem ok_pass_of {f : Addr} {fd : FuncData} (F : Fun K "pass_of" "pass_of" s_pass_of f fd) {f_lane_answer : Addr} {fd_lane_answer : FuncData} (G_lane_answer : FnOk P w K mg base CX0 3 f_lane_answer fd_lane_answer ["turns"] (spLA K)) (D_lane_answer : Df K mg "lane_answer" s_lane_answer ["turns"] f_lane_answer fd_lane_answer) {f_pass_refusal : Addr} {fd_pass_refusal : FuncData} (G_pass_refusal : FnOk P w K mg base CX0 6 f_pass_refusal fd_pass_refusal ["a", "b", "mode", "back", "l", "e"] (spPassR K)) (D_pass_refusal : Df K mg "pass_refusal" s_pass_refusal ["a", "b", "mode", "back", "l", "e"] f_pass_refusal fd_pass_refusal) {f_points_of : Addr} {fd_points_of : FuncData} (G_points_of : FnOk P w K mg base CX0 3 f_points_of fd_points_of ["l"] (spPts K)) (D_points_of : Df K mg "points_of" s_points_of ["l"] f_points_of fd_points_of) {f_lane_ticks : Addr} {fd_lane_ticks : FuncData} (G_lane_ticks : FnOk P w K mg base CX0 1 f_lane_ticks fd_lane_ticks ["ticks"] (spLT K)) (D_lane_ticks : Df K mg "lane_ticks" s_lane_ticks ["ticks"] f_lane_ticks fd_lane_ticks) {f_ticks_of : Addr} {fd_ticks_of : FuncData} (G_ticks_of : FnOk P w K mg base CX0 1 f_ticks_of fd_ticks_of ["points"] (spTicks K)) (D_ticks_of : Df K mg "ticks_of" s_ticks_of ["points"] f_ticks_of fd_ticks_of) {f_event_ticks : Addr} {fd_event_ticks : FuncData} (G_event_ticks : FnOk P w K mg base CX0 1 f_event_ticks fd_event_ticks ["back", "e"] (spET K)) (D_event_ticks : Df K mg "event_ticks" s_event_ticks ["back", "e"] f_event_ticks fd_event_ticks) {f_gain_at : Addr} {fd_gain_at : FuncData} (G_gain_at : FnOk P w K mg base CX0 1 f_gain_at fd_gain_at ["points", "tick"] (spGA K)) (D_gain_at : Df K mg "gain_at" s_gain_at ["points", "tick"] f_gain_at fd_gain_at) {f_gain_heard : Addr} {fd_gain_heard : FuncData} (G_gain_heard : FnOk P w K mg base CX0 5 f_gain_heard fd_gain_heard ["mode", "back", "gain", "e", "tick", "old"] (spGH K C)) (D_gain_heard : Df K mg "gain_heard" s_gain_heard ["mode", "back", "gain", "e", "tick", "old"] f_gain_heard fd_gain_heard) : FnOk P w K mg base CX0 7 f fd ["a", "b", "mode", "back", "gain", "l", "e"] (spPass K) := by
  refine F.ok sc_pass_of (fun vs H Q E h => ?_) (fun cdv A outer s H vs Q E hr h => ?_)
  · obtain ⟨a, b, m, g, v, p, q, l, e, rfl, hS, hT, hb, he, hl, ⟨a0, b0, m0, g0, v0⟩, k⟩ := h
    rfl
  · obtain ⟨a, b, m, g, v, p, q, l, e, rfl, hS, hT, hb, he, hl, ⟨a0, b0, m0, g0, v0⟩, k⟩ := h
    refine ⟨_, (pss_cons (ps_set (i := 7) sc_pass_of.nd rfl (Or.inl rfl) (pe_fn G_pass_refusal D_pass_refusal (hr.mono (by decide)) (pa_cons (pv 0) (pa_cons (pv 1) (pa_cons (pv 2) (pa_cons (pv 3) (pa_cons (pv 5) (pa_cons (pv 6) pa_nil))))))))
      (pss_cons (ps_if (pt_cmpR op_notN (pv 7) pe_non (nomark _)) (pss_one (ps_ret (pv 7))) pss_nil)
      (pss_cons (ps_set (i := 8) sc_pass_of.nd rfl (Or.inl rfl) (pe_fn G_points_of D_points_of (hr.mono (by decide)) (pa_cons (pv 5) pa_nil)))
      (pss_cons (ps_set (i := 9) sc_pass_of.nd rfl (Or.inl rfl) (pe_lst pa_nil))
      (pss_cons (ps_for PassesOwn.never rfl (pi_listK (K := K) rfl (pe_fn G_lane_ticks D_lane_ticks (hr.mono (by decide)) (pa_cons (pe_op op_cat (pe_op op_cat (pe_lst (pa_cons (pv 0) (pa_cons (pv 1) pa_nil))) (pe_fn G_ticks_of D_ticks_of (hr.mono (by decide)) (pa_cons (pv 8) pa_nil))) (pe_fn G_event_ticks D_event_ticks (hr.mono (by decide)) (pa_cons (pv 3) (pa_cons (pv 6) pa_nil)))) pa_nil))) (pg_name (i := 10) sc_pass_of.nd rfl (Or.inl rfl)) (pss_cons (ps_set (i := 11) sc_pass_of.nd rfl (Or.inl rfl) (pe_fn G_gain_at D_gain_at (hr.mono (by decide)) (pa_cons (pv 8) (pa_cons (pv 10) pa_nil))))
      (pss_cons (ps_set (i := 12) sc_pass_of.nd rfl (Or.inl rfl) (pe_ifExp (pt_chain op_le op_lt (pv 0) (pv 10) (pv 1)) (pe_fn G_gain_heard D_gain_heard (hr.mono (by decide)) (pa_cons (pv 2) (pa_cons (pv 3) (pa_cons (pv 4) (pa_cons (pv 6) (pa_cons (pv 10) (pa_cons (pv 11) pa_nil))))))) (pv 11)))
      (pss_one (ps_expr (pe_bm PySem.F.plainAttrs_list PySem.F.slot_list_append PySem.F.type_list_append mt_append (pv 9) (pa_cons (pe_tup (pa_cons (pv 10) (pa_cons (pv 12) pa_nil))) pa_nil)))))))
      (pss_one (ps_ret (pe_fn G_lane_answer D_lane_answer (hr.mono (by decide)) (pa_cons (pv 9) pa_nil))))))))), ?_⟩
    have l2 : sizeLine = 16777216 := by decide
    have ej := pass_eq2 (a := a) (b := b) (mode := m) (back := g) (gain := v) (e := e) hb a0 b0 m0 g0
    refine ⟨_, rfl, _, rfl, _, rfl, _, rfl, _, rfl, _, rfl, a, b, m, g, p, q, l, e, rfl, hS, hT, hb, he, hl, ⟨a0, b0⟩, fun c => ?_, fun ce c => ⟨fun z hz => ?_, fun hz => ⟨fun hf => ?_, fun hf => ?_⟩⟩⟩
    · have ej : PyWqaecd.pass_of a b m g v l e = [-2, 0, 0] := by
        rw [ej]
        by_cases c1 : 192 < e.length
        · rw [if_pos c1]
        · rw [if_neg c1, if_pos (c.resolve_left c1)]
      intro H3 r hr2 s3 h3
      refine ⟨_, rfl, rfl, _, rfl, ite2 (fun _ => ?_) (fun z => (z is_ref).elim)⟩
      exact ⟨_, rfl, k.eq ej H3 r hr2 s3 h3⟩
    · rw [if_neg ce, if_neg c, hz] at ej
      intro H3 r hr2 s3 h3
      refine ⟨_, rfl, rfl, _, rfl, ite2 (fun _ => ?_) (fun z => (z is_ref).elim)⟩
      exact ⟨_, rfl, k.eq ej H3 r hr2 s3 h3⟩
    · rw [if_neg ce, if_neg c, hz] at ej
      have ej := ej.trans (if_neg (by rw [hf]; exact Bool.false_ne_true))
      intro H3 r hr2 s3 h3
      refine ⟨_, rfl, rfl, _, rfl, ite2 (fun _ => ?_) (fun z => (z is_ref).elim)⟩
      exact ⟨_, rfl, k.eq ej H3 r hr2 s3 h3⟩
    rw [if_neg ce, if_neg c, hz] at ej
    have ej := ej.trans (if_pos hf)
    refine ⟨_, rfl, rfl, _, rfl, ite2 (fun z => (is_non z).elim) (fun _ => ?_)⟩
    have fi : a ≤ b ∧ b ≤ 16777216 ∧ m ≤ 4 ∧ g ≤ 16 ∧ evOk a.toNat b.toNat e = true := by
      unfold fineI at hf
      rw [Bool.and_eq_true, Bool.and_eq_true, Bool.and_eq_true, Bool.and_eq_true, decide_eq_true_eq, decide_eq_true_eq, decide_eq_true_eq, decide_eq_true_eq] at hf
      exact hf
    obtain ⟨f1, f2, f3, f4, f5⟩ := fi
    have f6 : e.length % 3 = 0 ∧ whatsOk e (e.length / 3) = true := by
      unfold evOk okUp at f5
      rw [Bool.and_eq_true, Bool.and_eq_true, decide_eq_true_eq] at f5
      exact ⟨f5.1, f5.2.1⟩
    obtain ⟨A, rfl⟩ : ∃ A : Nat, a = (A : Int) := ⟨a.toNat, by omega⟩
    obtain ⟨B, rfl⟩ : ∃ B : Nat, b = (B : Int) := ⟨b.toNat, by omega⟩
    obtain ⟨M, rfl⟩ : ∃ M : Nat, m = (M : Int) := ⟨m.toNat, by omega⟩
    obtain ⟨G, rfl⟩ : ∃ G : Nat, g = (G : Int) := ⟨g.toNat, by omega⟩
    obtain ⟨V0, rfl⟩ : ∃ V0 : Nat, v = (V0 : Int) := ⟨v.toNat, by omega⟩
    have ep : passOf (A : Int) (B : Int) (M : Int) (G : Int) (V0 : Int) = ⟨A, B, M, G, V0⟩ := rfl
    rw [ep] at ej
    obtain ⟨n, hn3⟩ : ∃ n, e.length / 3 = n := ⟨_, rfl⟩
    rw [hn3] at ej f6
    have hen : e.length = 3 * n := by omega
    obtain ⟨_, hl5, hn⟩ := laneFault_none hz
    refine ⟨_, rfl, p, l, b2 l 2, rfl, hS, hb, hl5, by omega, fun H2 d ps hp s2 P2 => ?_⟩
    have lp : ((0, b2 l 0) :: ptsAt l 4 (b2 l 2)).length ≤ 65 := by rw [List.length_cons, ptsAt_length]; omega
    have lt := ticks0_len l
    have le := evTicks_few (e := e) (back := G) (show n ≤ 64 by omega) (by omega)
    refine ⟨(by decide), fun u hu => ?_⟩
    have s3 : Same H2 (upd H2 u (.lst [])) := same_upd0 hu
    refine ⟨_, rfl, _, rfl, (by show 2 ≤ sizeLine; decide), fun d4 n4 => ?_⟩
    have s4 := same_upd0 (o := HO.lst [V.int (A : Int), V.int (B : Int)]) n4
    have P4 := (P2.mono s3).mono s4
    refine ⟨_, rfl, d, ps, _, rfl, P4, (by omega), fun H5 t5 n5 s5 h5 => ?_⟩
    rw [ticks0_pts] at h5
    refine ⟨d4, t5, _, _, rfl, rfl, s5 _ _ upd_same, h5, (by rw [List.length_map, lt]; show 2 + _ ≤ _; omega), fun d6 n6 => ?_⟩
    have s6 := same_upd0 (o := HO.lst ([V.int (A : Int), V.int (B : Int)] ++ (ticks0 (laneOf l)).map V.int)) n6
    have s36 := (s3.trans s4).trans (s5.trans s6)
    have s06 := s2.trans s36
    refine ⟨_, rfl, _, rfl, G, n, q, e, rfl, s06.seq hT, hen, by omega, by omega, fun H7 t7 n7 s7 h7 => ?_⟩
    refine ⟨d6, t7, _, _, rfl, rfl, s7 _ _ upd_same, h7, (by rw [List.length_append, List.length_map, List.length_map, lt]; show 2 + _ + _ ≤ _; omega), fun d8 n8 => ?_⟩
    have s8 := same_upd0 (o := HO.lst ([V.int (A : Int), V.int (B : Int)] ++ (ticks0 (laneOf l)).map V.int ++ (evTicks e G n).map V.int)) n8
    refine ⟨d8, ([(A : Int), (B : Int)] ++ ticks0 (laneOf l)) ++ evTicks e G n, rfl, ?_, (by rw [List.length_append, List.length_append, lt]; show 2 + _ + _ ≤ _; omega), fun S hT2 hSl HB qB nB sB hB => ?_⟩
    · refine SqL.of ?_
      rw [upd_same, List.map_append, List.map_append]
      rfl
    obtain ⟨S', rfl, eL⟩ := pass_lane (l := laneOf l) (p := ⟨A, B, M, G, V0⟩) he hT2
    rw [eL] at ej
    have sM : Same (upd H2 u (.lst [])) _ := (s4.trans (s5.trans s6)).trans (s7.trans s8)
    have sU : Same (upd H2 u (.lst [])) HB := sM.trans sB
    have s2B : Same H2 HB := s3.trans sU
    have hqu : qB ≠ u := new_ne sM upd_same nB
    refine ⟨qB, rfl, ⟨_, SqL.of hB⟩, for_list (K := K) (a := qB) (xs := (((0 :: S').map fun (t : Nat) => (t : Int)).map V.int)) (fun i σ HH => ∃ (us : List Addr) (v1 v2 v3 : Option V), Turns H2 qB u (((0 :: S').map fun (t : Nat) => (t : Int)).map V.int) ((laneOf l).says ⟨A, B, M, G, V0⟩ (evsAt e n)) (0 :: S') i HH us ∧ [some (V.int (A : Int)), some (V.int (B : Int)), some (V.int (M : Int)), some (V.int (G : Int)), some (V.int (V0 : Int)), some (V.ref p), some (V.ref q), some V.non, some (V.ref d), some (V.ref u), v1, v2, v3] = σ) ⟨[], none, none, none, Turns.start s2B hB (sU _ _ upd_same), rfl⟩ (fun i σ HH _ ⟨_, _, _, _, z, _⟩ => SqL.of z.2.1) ?_ ?_⟩
    · rintro i y σ HH hi ⟨us, v1, v2, v3, TT, rfl⟩
      obtain ⟨tk, htk, rfl⟩ := tick_at hi
      have ul := TT.ul
      have pH := P2.mono TT.1
      have lg := lane_gain_le hb hz tk
      refine ⟨_, rfl, _, rfl, d, ps, _, tk, (laneOf l).at_ tk, rfl, pH, (by omega), lastAt_filter tk _ _, fun HC sC => ?_⟩
      have old : ¬ (A ≤ tk ∧ tk < B) → (laneOf l).at_ tk = (laneOf l).says ⟨A, B, M, G, V0⟩ (evsAt e n) tk := fun hs => by
        unfold Mix.Lane.says
        rw [if_neg hs]
      refine ⟨_, rfl, _, rfl, _, _, rfl, rfl, _, rfl, ite2 (fun c => ?_) (fun c => ?_)⟩
      · have c : (A : Int) ≤ (tk : Int) := of_decide_eq_true c
        refine ⟨_, rfl, _, _, rfl, rfl, _, rfl, ite2 (fun c2 => ?_) (fun c2 => ?_)⟩
        · have c2 : (tk : Int) < (B : Int) := of_decide_eq_true c2
          refine ⟨_, rfl, _, rfl, _, rfl, _, rfl, _, rfl, _, rfl, M, G, V0, tk, (laneOf l).at_ tk, n, q, e, rfl, ((s2.trans TT.1).trans sC).seq hT, he, hen, by omega, f6.2, by omega, lg, fun HD sD => ?_⟩
          have eh := heard_int (p := ⟨A, B, M, G, V0⟩) (old := (laneOf l).at_ tk) (fdAt_is (t := tk) (p := ⟨A, B, M, G, V0⟩) f6.2) (by show M ≤ 4; omega) lg
          have es : heardI M G tk ((laneOf l).at_ tk) (fdAt tk V0 e n) = ((laneOf l).says ⟨A, B, M, G, V0⟩ (evsAt e n) tk : Int) := by
            unfold Mix.Lane.says
            rw [if_pos (show A ≤ tk ∧ tk < B by omega)]
            exact eh.symm
          have sH := sC.trans sD
          rw [es]
          refine ⟨_, rfl, .inl ⟨rfl, _, SqL.of (sH _ _ TT.2.2.1)⟩, _, rfl, _, rfl, (by show 2 ≤ sizeLine; decide), fun tt ht => ?_⟩
          have hu9 := sH _ _ TT.2.2.1
          exact ⟨u, _, _, rfl, rfl, (by rw [upd_ne (ne_of_none hu9 ht)]; exact hu9), (by omega), us ++ [tt], _, _, _, TT.step htk hu hqu sH ht, rfl⟩
        · have c2 : ¬ (tk : Int) < (B : Int) := fun z => c2 (decide_eq_true z)
          have eo := old (by omega)
          rw [eo]
          refine ⟨_, rfl, ?_⟩
          refine ⟨_, rfl, .inl ⟨rfl, _, SqL.of (sC _ _ TT.2.2.1)⟩, _, rfl, _, rfl, (by show 2 ≤ sizeLine; decide), fun tt ht => ?_⟩
          have hu9 := sC _ _ TT.2.2.1
          exact ⟨u, _, _, rfl, rfl, (by rw [upd_ne (ne_of_none hu9 ht)]; exact hu9), (by omega), us ++ [tt], _, _, _, TT.step htk hu hqu sC ht, rfl⟩
      · have c : ¬ (A : Int) ≤ (tk : Int) := fun z => c (decide_eq_true z)
        have eo := old (by omega)
        rw [eo]
        refine ⟨_, rfl, iteF ⟨_, rfl, ?_⟩⟩
        refine ⟨_, rfl, .inl ⟨rfl, _, SqL.of (sC _ _ TT.2.2.1)⟩, _, rfl, _, rfl, (by show 2 ≤ sizeLine; decide), fun tt ht => ?_⟩
        have hu9 := sC _ _ TT.2.2.1
        exact ⟨u, _, _, rfl, rfl, (by rw [upd_ne (ne_of_none hu9 ht)]; exact hu9), (by omega), us ++ [tt], _, _, _, TT.step htk hu hqu sC ht, rfl⟩
    · rintro σ HH ⟨us, v1, v2, v3, TT, rfl⟩
      refine ⟨_, rfl, u, us, _, _, rfl, TT.at (by rw [List.length_map, List.length_map]), ?_, (k.mono (s2.trans TT.1)).eq ej⟩
      show (List.map _ (0 :: S')).length ≤ 5000
      rw [List.length_map]
      omega
end
theorem all_mk {P : Program} {w : World} {K : PySem.W.Frag} {h : Heap} {mg : Str → Option Value} {fa f_held_gain f_Fader_init f_Fader_take f_answer f_bytes_answer f_refusal f_rounded f_line_value f_between f_fader_at f_touch_gain f_gain_heard f_are_events f_event_ticks f_two_bytes f_four_bytes f_point_fault f_lane_fault f_points_of f_gain_at f_ticks_of f_lane_ticks f_fewest f_low_first f_bytes_of f_lane_refusal f_lane_answer f_pass_refusal f_pass_of : Addr} (X : K.In h) (G : h.Ns mainGlobals mg) (hfa : mg "pass_of" = some (.ref fa))
    {od_held_gain an_held_gain od_Fader_init an_Fader_init od_Fader_take an_Fader_take od_answer an_answer od_bytes_answer an_bytes_answer od_refusal an_refusal od_rounded an_rounded od_line_value an_line_value od_between an_between od_fader_at an_fader_at od_touch_gain an_touch_gain od_gain_heard an_gain_heard od_are_events an_are_events od_event_ticks an_event_ticks od_two_bytes an_two_bytes od_four_bytes an_four_bytes od_point_fault an_point_fault od_lane_fault an_lane_fault od_points_of an_points_of od_gain_at an_gain_at od_ticks_of an_ticks_of od_lane_ticks an_lane_ticks od_fewest an_fewest od_low_first an_low_first od_bytes_of an_bytes_of od_lane_refusal an_lane_refusal od_lane_answer an_lane_answer od_pass_refusal an_pass_refusal od_pass_of an_pass_of : Option Addr} {sl_held_gain sl_Fader_init sl_Fader_take sl_answer sl_bytes_answer sl_refusal sl_rounded sl_line_value sl_between sl_fader_at sl_touch_gain sl_gain_heard sl_are_events sl_event_ticks sl_two_bytes sl_four_bytes sl_point_fault sl_lane_fault sl_points_of sl_gain_at sl_ticks_of sl_lane_ticks sl_fewest sl_low_first sl_bytes_of sl_lane_refusal sl_lane_answer sl_pass_refusal sl_pass_of : Array (Option Value)} {kV_held_gain dc_held_gain pm_held_gain cd_held_gain ct_held_gain oc_held_gain kV_Fader_init dc_Fader_init pm_Fader_init cd_Fader_init ct_Fader_init oc_Fader_init kV_Fader_take dc_Fader_take pm_Fader_take cd_Fader_take ct_Fader_take oc_Fader_take kV_answer dc_answer pm_answer cd_answer ct_answer oc_answer kV_bytes_answer dc_bytes_answer pm_bytes_answer cd_bytes_answer ct_bytes_answer oc_bytes_answer kV_refusal dc_refusal pm_refusal cd_refusal ct_refusal oc_refusal kV_rounded dc_rounded pm_rounded cd_rounded ct_rounded oc_rounded kV_line_value dc_line_value pm_line_value cd_line_value ct_line_value oc_line_value kV_between dc_between pm_between cd_between ct_between oc_between kV_fader_at dc_fader_at pm_fader_at cd_fader_at ct_fader_at oc_fader_at kV_touch_gain dc_touch_gain pm_touch_gain cd_touch_gain ct_touch_gain oc_touch_gain kV_gain_heard dc_gain_heard pm_gain_heard cd_gain_heard ct_gain_heard oc_gain_heard kV_are_events dc_are_events pm_are_events cd_are_events ct_are_events oc_are_events kV_event_ticks dc_event_ticks pm_event_ticks cd_event_ticks ct_event_ticks oc_event_ticks kV_two_bytes dc_two_bytes pm_two_bytes cd_two_bytes ct_two_bytes oc_two_bytes kV_four_bytes dc_four_bytes pm_four_bytes cd_four_bytes ct_four_bytes oc_four_bytes kV_point_fault dc_point_fault pm_point_fault cd_point_fault ct_point_fault oc_point_fault kV_lane_fault dc_lane_fault pm_lane_fault cd_lane_fault ct_lane_fault oc_lane_fault kV_points_of dc_points_of pm_points_of cd_points_of ct_points_of oc_points_of kV_gain_at dc_gain_at pm_gain_at cd_gain_at ct_gain_at oc_gain_at kV_ticks_of dc_ticks_of pm_ticks_of cd_ticks_of ct_ticks_of oc_ticks_of kV_lane_ticks dc_lane_ticks pm_lane_ticks cd_lane_ticks ct_lane_ticks oc_lane_ticks kV_fewest dc_fewest pm_fewest cd_fewest ct_fewest oc_fewest kV_low_first dc_low_first pm_low_first cd_low_first ct_low_first oc_low_first kV_bytes_of dc_bytes_of pm_bytes_of cd_bytes_of ct_bytes_of oc_bytes_of kV_lane_refusal dc_lane_refusal pm_lane_refusal cd_lane_refusal ct_lane_refusal oc_lane_refusal kV_lane_answer dc_lane_answer pm_lane_answer cd_lane_answer ct_lane_answer oc_lane_answer kV_pass_refusal dc_pass_refusal pm_pass_refusal cd_pass_refusal ct_pass_refusal oc_pass_refusal kV_pass_of dc_pass_of pm_pass_of cd_pass_of ct_pass_of oc_pass_of : Value}
    {C : Addr} (aC : PySem.W.nsIn K mainGlobals "Fader" = some (some (.ref C))) (pg : PySem.W.plainGet K C Str.empty = true) (hd : PySem.W.hasDictIn K C = true) (po : PySem.W.plainOver K C = true) (sa : PySem.W.findIn K (.ref C) "__setattr__" = some (some (.builtin "object.__setattr__"))) (mk : PySem.W.makesIn K C = true) (kc : PySem.W.keepIn K (.ref C) = true)
    (nf_0 : PySem.W.findIn K (.ref C) "level" = some none)
    (nf_1 : PySem.W.findIn K (.ref C) "was_touched" = some none)
    (nf_2 : PySem.W.findIn K (.ref C) "is_held" = some none)
    (nf_3 : PySem.W.findIn K (.ref C) "let_go" = some none)
    (a_held_gain : PySem.W.nsIn K mainGlobals "held_gain" = some (some (.ref f_held_gain))) (l_held_gain : K.lookup f_held_gain = some ⟨oc_held_gain, od_held_gain, .func (PySem.W.fnOf "held_gain" "held_gain" (defArgs s_held_gain) (defBody s_held_gain) (defScope s_held_gain) .none kV_held_gain dc_held_gain pm_held_gain an_held_gain cd_held_gain ct_held_gain), sl_held_gain⟩) (c_held_gain : PySem.W.codeIn K cd_held_gain "held_gain" = true) (k_held_gain : PySem.W.keepIn K (.ref f_held_gain) = true)
    (a_Fader_init : PySem.W.findIn K (.ref C) "__init__" = some (some (.ref f_Fader_init))) (i_Fader_init : PySem.W.isFn K (.ref f_Fader_init) = true) (l_Fader_init : K.lookup f_Fader_init = some ⟨oc_Fader_init, od_Fader_init, .func (PySem.W.fnOf "__init__" "Fader.__init__" (defArgs s_Fader_init) (defBody s_Fader_init) (defScope s_Fader_init) .none kV_Fader_init dc_Fader_init pm_Fader_init an_Fader_init cd_Fader_init ct_Fader_init), sl_Fader_init⟩) (c_Fader_init : PySem.W.codeIn K cd_Fader_init "Fader.__init__" = true) (k_Fader_init : PySem.W.keepIn K (.ref f_Fader_init) = true)
    (a_Fader_take : PySem.W.findIn K (.ref C) "take" = some (some (.ref f_Fader_take))) (i_Fader_take : PySem.W.isFn K (.ref f_Fader_take) = true) (l_Fader_take : K.lookup f_Fader_take = some ⟨oc_Fader_take, od_Fader_take, .func (PySem.W.fnOf "take" "Fader.take" (defArgs s_Fader_take) (defBody s_Fader_take) (defScope s_Fader_take) .none kV_Fader_take dc_Fader_take pm_Fader_take an_Fader_take cd_Fader_take ct_Fader_take), sl_Fader_take⟩) (c_Fader_take : PySem.W.codeIn K cd_Fader_take "Fader.take" = true) (k_Fader_take : PySem.W.keepIn K (.ref f_Fader_take) = true)
    (a_answer : PySem.W.nsIn K mainGlobals "answer" = some (some (.ref f_answer))) (l_answer : K.lookup f_answer = some ⟨oc_answer, od_answer, .func (PySem.W.fnOf "answer" "answer" (defArgs s_answer) (defBody s_answer) (defScope s_answer) .none kV_answer dc_answer pm_answer an_answer cd_answer ct_answer), sl_answer⟩) (c_answer : PySem.W.codeIn K cd_answer "answer" = true) (k_answer : PySem.W.keepIn K (.ref f_answer) = true)
    (a_bytes_answer : PySem.W.nsIn K mainGlobals "bytes_answer" = some (some (.ref f_bytes_answer))) (l_bytes_answer : K.lookup f_bytes_answer = some ⟨oc_bytes_answer, od_bytes_answer, .func (PySem.W.fnOf "bytes_answer" "bytes_answer" (defArgs s_bytes_answer) (defBody s_bytes_answer) (defScope s_bytes_answer) .none kV_bytes_answer dc_bytes_answer pm_bytes_answer an_bytes_answer cd_bytes_answer ct_bytes_answer), sl_bytes_answer⟩) (c_bytes_answer : PySem.W.codeIn K cd_bytes_answer "bytes_answer" = true) (k_bytes_answer : PySem.W.keepIn K (.ref f_bytes_answer) = true)
    (a_refusal : PySem.W.nsIn K mainGlobals "refusal" = some (some (.ref f_refusal))) (l_refusal : K.lookup f_refusal = some ⟨oc_refusal, od_refusal, .func (PySem.W.fnOf "refusal" "refusal" (defArgs s_refusal) (defBody s_refusal) (defScope s_refusal) .none kV_refusal dc_refusal pm_refusal an_refusal cd_refusal ct_refusal), sl_refusal⟩) (c_refusal : PySem.W.codeIn K cd_refusal "refusal" = true) (k_refusal : PySem.W.keepIn K (.ref f_refusal) = true)
    (a_rounded : PySem.W.nsIn K mainGlobals "rounded" = some (some (.ref f_rounded))) (l_rounded : K.lookup f_rounded = some ⟨oc_rounded, od_rounded, .func (PySem.W.fnOf "rounded" "rounded" (defArgs s_rounded) (defBody s_rounded) (defScope s_rounded) .none kV_rounded dc_rounded pm_rounded an_rounded cd_rounded ct_rounded), sl_rounded⟩) (c_rounded : PySem.W.codeIn K cd_rounded "rounded" = true) (k_rounded : PySem.W.keepIn K (.ref f_rounded) = true)
    (a_line_value : PySem.W.nsIn K mainGlobals "line_value" = some (some (.ref f_line_value))) (l_line_value : K.lookup f_line_value = some ⟨oc_line_value, od_line_value, .func (PySem.W.fnOf "line_value" "line_value" (defArgs s_line_value) (defBody s_line_value) (defScope s_line_value) .none kV_line_value dc_line_value pm_line_value an_line_value cd_line_value ct_line_value), sl_line_value⟩) (c_line_value : PySem.W.codeIn K cd_line_value "line_value" = true) (k_line_value : PySem.W.keepIn K (.ref f_line_value) = true)
    (a_between : PySem.W.nsIn K mainGlobals "between" = some (some (.ref f_between))) (l_between : K.lookup f_between = some ⟨oc_between, od_between, .func (PySem.W.fnOf "between" "between" (defArgs s_between) (defBody s_between) (defScope s_between) .none kV_between dc_between pm_between an_between cd_between ct_between), sl_between⟩) (c_between : PySem.W.codeIn K cd_between "between" = true) (k_between : PySem.W.keepIn K (.ref f_between) = true)
    (a_fader_at : PySem.W.nsIn K mainGlobals "fader_at" = some (some (.ref f_fader_at))) (l_fader_at : K.lookup f_fader_at = some ⟨oc_fader_at, od_fader_at, .func (PySem.W.fnOf "fader_at" "fader_at" (defArgs s_fader_at) (defBody s_fader_at) (defScope s_fader_at) .none kV_fader_at dc_fader_at pm_fader_at an_fader_at cd_fader_at ct_fader_at), sl_fader_at⟩) (c_fader_at : PySem.W.codeIn K cd_fader_at "fader_at" = true) (k_fader_at : PySem.W.keepIn K (.ref f_fader_at) = true)
    (a_touch_gain : PySem.W.nsIn K mainGlobals "touch_gain" = some (some (.ref f_touch_gain))) (l_touch_gain : K.lookup f_touch_gain = some ⟨oc_touch_gain, od_touch_gain, .func (PySem.W.fnOf "touch_gain" "touch_gain" (defArgs s_touch_gain) (defBody s_touch_gain) (defScope s_touch_gain) .none kV_touch_gain dc_touch_gain pm_touch_gain an_touch_gain cd_touch_gain ct_touch_gain), sl_touch_gain⟩) (c_touch_gain : PySem.W.codeIn K cd_touch_gain "touch_gain" = true) (k_touch_gain : PySem.W.keepIn K (.ref f_touch_gain) = true)
    (a_gain_heard : PySem.W.nsIn K mainGlobals "gain_heard" = some (some (.ref f_gain_heard))) (l_gain_heard : K.lookup f_gain_heard = some ⟨oc_gain_heard, od_gain_heard, .func (PySem.W.fnOf "gain_heard" "gain_heard" (defArgs s_gain_heard) (defBody s_gain_heard) (defScope s_gain_heard) .none kV_gain_heard dc_gain_heard pm_gain_heard an_gain_heard cd_gain_heard ct_gain_heard), sl_gain_heard⟩) (c_gain_heard : PySem.W.codeIn K cd_gain_heard "gain_heard" = true) (k_gain_heard : PySem.W.keepIn K (.ref f_gain_heard) = true)
    (a_are_events : PySem.W.nsIn K mainGlobals "are_events" = some (some (.ref f_are_events))) (l_are_events : K.lookup f_are_events = some ⟨oc_are_events, od_are_events, .func (PySem.W.fnOf "are_events" "are_events" (defArgs s_are_events) (defBody s_are_events) (defScope s_are_events) .none kV_are_events dc_are_events pm_are_events an_are_events cd_are_events ct_are_events), sl_are_events⟩) (c_are_events : PySem.W.codeIn K cd_are_events "are_events" = true) (k_are_events : PySem.W.keepIn K (.ref f_are_events) = true)
    (a_event_ticks : PySem.W.nsIn K mainGlobals "event_ticks" = some (some (.ref f_event_ticks))) (l_event_ticks : K.lookup f_event_ticks = some ⟨oc_event_ticks, od_event_ticks, .func (PySem.W.fnOf "event_ticks" "event_ticks" (defArgs s_event_ticks) (defBody s_event_ticks) (defScope s_event_ticks) .none kV_event_ticks dc_event_ticks pm_event_ticks an_event_ticks cd_event_ticks ct_event_ticks), sl_event_ticks⟩) (c_event_ticks : PySem.W.codeIn K cd_event_ticks "event_ticks" = true) (k_event_ticks : PySem.W.keepIn K (.ref f_event_ticks) = true)
    (a_two_bytes : PySem.W.nsIn K mainGlobals "two_bytes" = some (some (.ref f_two_bytes))) (l_two_bytes : K.lookup f_two_bytes = some ⟨oc_two_bytes, od_two_bytes, .func (PySem.W.fnOf "two_bytes" "two_bytes" (defArgs s_two_bytes) (defBody s_two_bytes) (defScope s_two_bytes) .none kV_two_bytes dc_two_bytes pm_two_bytes an_two_bytes cd_two_bytes ct_two_bytes), sl_two_bytes⟩) (c_two_bytes : PySem.W.codeIn K cd_two_bytes "two_bytes" = true) (k_two_bytes : PySem.W.keepIn K (.ref f_two_bytes) = true)
    (a_four_bytes : PySem.W.nsIn K mainGlobals "four_bytes" = some (some (.ref f_four_bytes))) (l_four_bytes : K.lookup f_four_bytes = some ⟨oc_four_bytes, od_four_bytes, .func (PySem.W.fnOf "four_bytes" "four_bytes" (defArgs s_four_bytes) (defBody s_four_bytes) (defScope s_four_bytes) .none kV_four_bytes dc_four_bytes pm_four_bytes an_four_bytes cd_four_bytes ct_four_bytes), sl_four_bytes⟩) (c_four_bytes : PySem.W.codeIn K cd_four_bytes "four_bytes" = true) (k_four_bytes : PySem.W.keepIn K (.ref f_four_bytes) = true)
    (a_point_fault : PySem.W.nsIn K mainGlobals "point_fault" = some (some (.ref f_point_fault))) (l_point_fault : K.lookup f_point_fault = some ⟨oc_point_fault, od_point_fault, .func (PySem.W.fnOf "point_fault" "point_fault" (defArgs s_point_fault) (defBody s_point_fault) (defScope s_point_fault) .none kV_point_fault dc_point_fault pm_point_fault an_point_fault cd_point_fault ct_point_fault), sl_point_fault⟩) (c_point_fault : PySem.W.codeIn K cd_point_fault "point_fault" = true) (k_point_fault : PySem.W.keepIn K (.ref f_point_fault) = true)
    (a_lane_fault : PySem.W.nsIn K mainGlobals "lane_fault" = some (some (.ref f_lane_fault))) (l_lane_fault : K.lookup f_lane_fault = some ⟨oc_lane_fault, od_lane_fault, .func (PySem.W.fnOf "lane_fault" "lane_fault" (defArgs s_lane_fault) (defBody s_lane_fault) (defScope s_lane_fault) .none kV_lane_fault dc_lane_fault pm_lane_fault an_lane_fault cd_lane_fault ct_lane_fault), sl_lane_fault⟩) (c_lane_fault : PySem.W.codeIn K cd_lane_fault "lane_fault" = true) (k_lane_fault : PySem.W.keepIn K (.ref f_lane_fault) = true)
    (a_points_of : PySem.W.nsIn K mainGlobals "points_of" = some (some (.ref f_points_of))) (l_points_of : K.lookup f_points_of = some ⟨oc_points_of, od_points_of, .func (PySem.W.fnOf "points_of" "points_of" (defArgs s_points_of) (defBody s_points_of) (defScope s_points_of) .none kV_points_of dc_points_of pm_points_of an_points_of cd_points_of ct_points_of), sl_points_of⟩) (c_points_of : PySem.W.codeIn K cd_points_of "points_of" = true) (k_points_of : PySem.W.keepIn K (.ref f_points_of) = true)
    (a_gain_at : PySem.W.nsIn K mainGlobals "gain_at" = some (some (.ref f_gain_at))) (l_gain_at : K.lookup f_gain_at = some ⟨oc_gain_at, od_gain_at, .func (PySem.W.fnOf "gain_at" "gain_at" (defArgs s_gain_at) (defBody s_gain_at) (defScope s_gain_at) .none kV_gain_at dc_gain_at pm_gain_at an_gain_at cd_gain_at ct_gain_at), sl_gain_at⟩) (c_gain_at : PySem.W.codeIn K cd_gain_at "gain_at" = true) (k_gain_at : PySem.W.keepIn K (.ref f_gain_at) = true)
    (a_ticks_of : PySem.W.nsIn K mainGlobals "ticks_of" = some (some (.ref f_ticks_of))) (l_ticks_of : K.lookup f_ticks_of = some ⟨oc_ticks_of, od_ticks_of, .func (PySem.W.fnOf "ticks_of" "ticks_of" (defArgs s_ticks_of) (defBody s_ticks_of) (defScope s_ticks_of) .none kV_ticks_of dc_ticks_of pm_ticks_of an_ticks_of cd_ticks_of ct_ticks_of), sl_ticks_of⟩) (c_ticks_of : PySem.W.codeIn K cd_ticks_of "ticks_of" = true) (k_ticks_of : PySem.W.keepIn K (.ref f_ticks_of) = true)
    (a_lane_ticks : PySem.W.nsIn K mainGlobals "lane_ticks" = some (some (.ref f_lane_ticks))) (l_lane_ticks : K.lookup f_lane_ticks = some ⟨oc_lane_ticks, od_lane_ticks, .func (PySem.W.fnOf "lane_ticks" "lane_ticks" (defArgs s_lane_ticks) (defBody s_lane_ticks) (defScope s_lane_ticks) .none kV_lane_ticks dc_lane_ticks pm_lane_ticks an_lane_ticks cd_lane_ticks ct_lane_ticks), sl_lane_ticks⟩) (c_lane_ticks : PySem.W.codeIn K cd_lane_ticks "lane_ticks" = true) (k_lane_ticks : PySem.W.keepIn K (.ref f_lane_ticks) = true)
    (a_fewest : PySem.W.nsIn K mainGlobals "fewest" = some (some (.ref f_fewest))) (l_fewest : K.lookup f_fewest = some ⟨oc_fewest, od_fewest, .func (PySem.W.fnOf "fewest" "fewest" (defArgs s_fewest) (defBody s_fewest) (defScope s_fewest) .none kV_fewest dc_fewest pm_fewest an_fewest cd_fewest ct_fewest), sl_fewest⟩) (c_fewest : PySem.W.codeIn K cd_fewest "fewest" = true) (k_fewest : PySem.W.keepIn K (.ref f_fewest) = true)
    (a_low_first : PySem.W.nsIn K mainGlobals "low_first" = some (some (.ref f_low_first))) (l_low_first : K.lookup f_low_first = some ⟨oc_low_first, od_low_first, .func (PySem.W.fnOf "low_first" "low_first" (defArgs s_low_first) (defBody s_low_first) (defScope s_low_first) .none kV_low_first dc_low_first pm_low_first an_low_first cd_low_first ct_low_first), sl_low_first⟩) (c_low_first : PySem.W.codeIn K cd_low_first "low_first" = true) (k_low_first : PySem.W.keepIn K (.ref f_low_first) = true)
    (a_bytes_of : PySem.W.nsIn K mainGlobals "bytes_of" = some (some (.ref f_bytes_of))) (l_bytes_of : K.lookup f_bytes_of = some ⟨oc_bytes_of, od_bytes_of, .func (PySem.W.fnOf "bytes_of" "bytes_of" (defArgs s_bytes_of) (defBody s_bytes_of) (defScope s_bytes_of) .none kV_bytes_of dc_bytes_of pm_bytes_of an_bytes_of cd_bytes_of ct_bytes_of), sl_bytes_of⟩) (c_bytes_of : PySem.W.codeIn K cd_bytes_of "bytes_of" = true) (k_bytes_of : PySem.W.keepIn K (.ref f_bytes_of) = true)
    (a_lane_refusal : PySem.W.nsIn K mainGlobals "lane_refusal" = some (some (.ref f_lane_refusal))) (l_lane_refusal : K.lookup f_lane_refusal = some ⟨oc_lane_refusal, od_lane_refusal, .func (PySem.W.fnOf "lane_refusal" "lane_refusal" (defArgs s_lane_refusal) (defBody s_lane_refusal) (defScope s_lane_refusal) .none kV_lane_refusal dc_lane_refusal pm_lane_refusal an_lane_refusal cd_lane_refusal ct_lane_refusal), sl_lane_refusal⟩) (c_lane_refusal : PySem.W.codeIn K cd_lane_refusal "lane_refusal" = true) (k_lane_refusal : PySem.W.keepIn K (.ref f_lane_refusal) = true)
    (a_lane_answer : PySem.W.nsIn K mainGlobals "lane_answer" = some (some (.ref f_lane_answer))) (l_lane_answer : K.lookup f_lane_answer = some ⟨oc_lane_answer, od_lane_answer, .func (PySem.W.fnOf "lane_answer" "lane_answer" (defArgs s_lane_answer) (defBody s_lane_answer) (defScope s_lane_answer) .none kV_lane_answer dc_lane_answer pm_lane_answer an_lane_answer cd_lane_answer ct_lane_answer), sl_lane_answer⟩) (c_lane_answer : PySem.W.codeIn K cd_lane_answer "lane_answer" = true) (k_lane_answer : PySem.W.keepIn K (.ref f_lane_answer) = true)
    (a_pass_refusal : PySem.W.nsIn K mainGlobals "pass_refusal" = some (some (.ref f_pass_refusal))) (l_pass_refusal : K.lookup f_pass_refusal = some ⟨oc_pass_refusal, od_pass_refusal, .func (PySem.W.fnOf "pass_refusal" "pass_refusal" (defArgs s_pass_refusal) (defBody s_pass_refusal) (defScope s_pass_refusal) .none kV_pass_refusal dc_pass_refusal pm_pass_refusal an_pass_refusal cd_pass_refusal ct_pass_refusal), sl_pass_refusal⟩) (c_pass_refusal : PySem.W.codeIn K cd_pass_refusal "pass_refusal" = true) (k_pass_refusal : PySem.W.keepIn K (.ref f_pass_refusal) = true)
    (a_pass_of : PySem.W.nsIn K mainGlobals "pass_of" = some (some (.ref f_pass_of))) (l_pass_of : K.lookup f_pass_of = some ⟨oc_pass_of, od_pass_of, .func (PySem.W.fnOf "pass_of" "pass_of" (defArgs s_pass_of) (defBody s_pass_of) (defScope s_pass_of) .none kV_pass_of dc_pass_of pm_pass_of an_pass_of cd_pass_of ct_pass_of), sl_pass_of⟩) (c_pass_of : PySem.W.codeIn K cd_pass_of "pass_of" = true) (k_pass_of : PySem.W.keepIn K (.ref f_pass_of) = true)
    {t_GREATEST_GAIN t_TOUCHED t_GLIDE_STEPS t_EVENT_NUMBERS t_TOUCH_MODE t_LATCH_MODE t_WRITE_MODE t_TRIM_MODE t_GAIN_AS_IT_CAME t_TICK_BYTES t_BYTES_END t_GREATEST_TICK t_LEAST_TICK t_NUMBER_OUT_OF_BOUNDS t_NOT_ANOTHER t_POINT_BYTES t_HEAD_BYTES t_COUNT_PLACE t_MOST_POINTS t_BYTES_LEFT_OVER t_GAIN_BYTES t_COUNT_BYTES t_MOST_LANE_BYTES t_TOO_MANY t_NO_LANE t_TOO_MANY_POINTS t_MOST_EVENT_NUMBERS t_LONGEST_WAY_BACK t_TICKS_END t_OUT_OF_BOUNDS : Tok}
    (g_GREATEST_GAIN : PySem.W.nsIn K mainGlobals "GREATEST_GAIN" = some (some (.int (65535) t_GREATEST_GAIN)))
    (g_TOUCHED : PySem.W.nsIn K mainGlobals "TOUCHED" = some (some (.int (1) t_TOUCHED)))
    (g_GLIDE_STEPS : PySem.W.nsIn K mainGlobals "GLIDE_STEPS" = some (some (.int (64) t_GLIDE_STEPS)))
    (g_EVENT_NUMBERS : PySem.W.nsIn K mainGlobals "EVENT_NUMBERS" = some (some (.int (3) t_EVENT_NUMBERS)))
    (g_TOUCH_MODE : PySem.W.nsIn K mainGlobals "TOUCH_MODE" = some (some (.int (1) t_TOUCH_MODE)))
    (g_LATCH_MODE : PySem.W.nsIn K mainGlobals "LATCH_MODE" = some (some (.int (2) t_LATCH_MODE)))
    (g_WRITE_MODE : PySem.W.nsIn K mainGlobals "WRITE_MODE" = some (some (.int (3) t_WRITE_MODE)))
    (g_TRIM_MODE : PySem.W.nsIn K mainGlobals "TRIM_MODE" = some (some (.int (4) t_TRIM_MODE)))
    (g_GAIN_AS_IT_CAME : PySem.W.nsIn K mainGlobals "GAIN_AS_IT_CAME" = some (some (.int (16384) t_GAIN_AS_IT_CAME)))
    (g_TICK_BYTES : PySem.W.nsIn K mainGlobals "TICK_BYTES" = some (some (.int (4) t_TICK_BYTES)))
    (g_BYTES_END : PySem.W.nsIn K mainGlobals "BYTES_END" = some (some (.int (1) t_BYTES_END)))
    (g_GREATEST_TICK : PySem.W.nsIn K mainGlobals "GREATEST_TICK" = some (some (.int (16777215) t_GREATEST_TICK)))
    (g_LEAST_TICK : PySem.W.nsIn K mainGlobals "LEAST_TICK" = some (some (.int (1) t_LEAST_TICK)))
    (g_NUMBER_OUT_OF_BOUNDS : PySem.W.nsIn K mainGlobals "NUMBER_OUT_OF_BOUNDS" = some (some (.int (2) t_NUMBER_OUT_OF_BOUNDS)))
    (g_NOT_ANOTHER : PySem.W.nsIn K mainGlobals "NOT_ANOTHER" = some (some (.int (3) t_NOT_ANOTHER)))
    (g_POINT_BYTES : PySem.W.nsIn K mainGlobals "POINT_BYTES" = some (some (.int (6) t_POINT_BYTES)))
    (g_HEAD_BYTES : PySem.W.nsIn K mainGlobals "HEAD_BYTES" = some (some (.int (4) t_HEAD_BYTES)))
    (g_COUNT_PLACE : PySem.W.nsIn K mainGlobals "COUNT_PLACE" = some (some (.int (2) t_COUNT_PLACE)))
    (g_MOST_POINTS : PySem.W.nsIn K mainGlobals "MOST_POINTS" = some (some (.int (64) t_MOST_POINTS)))
    (g_BYTES_LEFT_OVER : PySem.W.nsIn K mainGlobals "BYTES_LEFT_OVER" = some (some (.int (4) t_BYTES_LEFT_OVER)))
    (g_GAIN_BYTES : PySem.W.nsIn K mainGlobals "GAIN_BYTES" = some (some (.int (2) t_GAIN_BYTES)))
    (g_COUNT_BYTES : PySem.W.nsIn K mainGlobals "COUNT_BYTES" = some (some (.int (2) t_COUNT_BYTES)))
    (g_MOST_LANE_BYTES : PySem.W.nsIn K mainGlobals "MOST_LANE_BYTES" = some (some (.int (1024) t_MOST_LANE_BYTES)))
    (g_TOO_MANY : PySem.W.nsIn K mainGlobals "TOO_MANY" = some (some (.int (-2) t_TOO_MANY)))
    (g_NO_LANE : PySem.W.nsIn K mainGlobals "NO_LANE" = some (some (.int (-6) t_NO_LANE)))
    (g_TOO_MANY_POINTS : PySem.W.nsIn K mainGlobals "TOO_MANY_POINTS" = some (some (.int (-3) t_TOO_MANY_POINTS)))
    (g_MOST_EVENT_NUMBERS : PySem.W.nsIn K mainGlobals "MOST_EVENT_NUMBERS" = some (some (.int (192) t_MOST_EVENT_NUMBERS)))
    (g_LONGEST_WAY_BACK : PySem.W.nsIn K mainGlobals "LONGEST_WAY_BACK" = some (some (.int (16) t_LONGEST_WAY_BACK)))
    (g_TICKS_END : PySem.W.nsIn K mainGlobals "TICKS_END" = some (some (.int (16777216) t_TICKS_END)))
    (g_OUT_OF_BOUNDS : PySem.W.nsIn K mainGlobals "OUT_OF_BOUNDS" = some (some (.int (-1) t_OUT_OF_BOUNDS)))
    (z_min : PySem.W.nsIn K mainGlobals "min" = some none)
    (z_len : PySem.W.nsIn K mainGlobals "len" = some none)
    (z_range : PySem.W.nsIn K mainGlobals "range" = some none)
    (z_sorted : PySem.W.nsIn K mainGlobals "sorted" = some none)
    (z_set : PySem.W.nsIn K mainGlobals "set" = some none) :
    ∃ fd : FuncData, (∀ (s : Shared) (us : List Value), us.length = (["a", "b", "mode", "back", "gain", "l", "e"] : List Str).length → BindsTo s fd ⟨us, []⟩ ((["a", "b", "mode", "back", "gain", "l", "e"] : List Str).zip us)) ∧ ∀ base : Heap, K.In base → base.Ns mainGlobals mg → FnOk P w K mg base CX0 7 fa fd ["a", "b", "mode", "back", "gain", "l", "e"] (spPass K) := by
  have e := hfa.symm.trans (PySem.W.mg_of X G a_pass_of)
  cases e
  have F_held_gain := fun_mk (st := s_held_gain) l_held_gain c_held_gain k_held_gain
  have F_Fader_init := fun_mk (st := s_Fader_init) l_Fader_init c_Fader_init k_Fader_init
  have F_Fader_take := fun_mk (st := s_Fader_take) l_Fader_take c_Fader_take k_Fader_take
  have F_answer := fun_mk (st := s_answer) l_answer c_answer k_answer
  have F_bytes_answer := fun_mk (st := s_bytes_answer) l_bytes_answer c_bytes_answer k_bytes_answer
  have F_refusal := fun_mk (st := s_refusal) l_refusal c_refusal k_refusal
  have F_rounded := fun_mk (st := s_rounded) l_rounded c_rounded k_rounded
  have F_line_value := fun_mk (st := s_line_value) l_line_value c_line_value k_line_value
  have F_between := fun_mk (st := s_between) l_between c_between k_between
  have F_fader_at := fun_mk (st := s_fader_at) l_fader_at c_fader_at k_fader_at
  have F_touch_gain := fun_mk (st := s_touch_gain) l_touch_gain c_touch_gain k_touch_gain
  have F_gain_heard := fun_mk (st := s_gain_heard) l_gain_heard c_gain_heard k_gain_heard
  have F_are_events := fun_mk (st := s_are_events) l_are_events c_are_events k_are_events
  have F_event_ticks := fun_mk (st := s_event_ticks) l_event_ticks c_event_ticks k_event_ticks
  have F_two_bytes := fun_mk (st := s_two_bytes) l_two_bytes c_two_bytes k_two_bytes
  have F_four_bytes := fun_mk (st := s_four_bytes) l_four_bytes c_four_bytes k_four_bytes
  have F_point_fault := fun_mk (st := s_point_fault) l_point_fault c_point_fault k_point_fault
  have F_lane_fault := fun_mk (st := s_lane_fault) l_lane_fault c_lane_fault k_lane_fault
  have F_points_of := fun_mk (st := s_points_of) l_points_of c_points_of k_points_of
  have F_gain_at := fun_mk (st := s_gain_at) l_gain_at c_gain_at k_gain_at
  have F_ticks_of := fun_mk (st := s_ticks_of) l_ticks_of c_ticks_of k_ticks_of
  have F_lane_ticks := fun_mk (st := s_lane_ticks) l_lane_ticks c_lane_ticks k_lane_ticks
  have F_fewest := fun_mk (st := s_fewest) l_fewest c_fewest k_fewest
  have F_low_first := fun_mk (st := s_low_first) l_low_first c_low_first k_low_first
  have F_bytes_of := fun_mk (st := s_bytes_of) l_bytes_of c_bytes_of k_bytes_of
  have F_lane_refusal := fun_mk (st := s_lane_refusal) l_lane_refusal c_lane_refusal k_lane_refusal
  have F_lane_answer := fun_mk (st := s_lane_answer) l_lane_answer c_lane_answer k_lane_answer
  have F_pass_refusal := fun_mk (st := s_pass_refusal) l_pass_refusal c_pass_refusal k_pass_refusal
  have F_pass_of := fun_mk (st := s_pass_of) l_pass_of c_pass_of k_pass_of
  have T : Txt K C := ⟨⟨pg, hd, po, sa⟩, nf_0, nf_1, nf_2, nf_3⟩
  have D_held_gain : Df K mg "held_gain" s_held_gain ["handed"] f_held_gain _ := ⟨F_held_gain, F_held_gain.binds (ps := ["handed"]) (fun _ _ _ _ _ _ us hl => match us, hl with | [_], _ => rfl), PySem.W.mg_of X G a_held_gain⟩
  have b_Fader_init := F_Fader_init.binds (ps := ["self", "level"]) (fun _ _ _ _ _ _ us hl => match us, hl with | [_, _], _ => rfl)
  have b_Fader_take := F_Fader_take.binds (ps := ["self", "tick", "what", "level"]) (fun _ _ _ _ _ _ us hl => match us, hl with | [_, _, _, _], _ => rfl)
  have D_answer : Df K mg "answer" s_answer ["number", "told"] f_answer _ := ⟨F_answer, F_answer.binds (ps := ["number", "told"]) (fun _ _ _ _ _ _ us hl => match us, hl with | [_, _], _ => rfl), PySem.W.mg_of X G a_answer⟩
  have D_bytes_answer : Df K mg "bytes_answer" s_bytes_answer ["told"] f_bytes_answer _ := ⟨F_bytes_answer, F_bytes_answer.binds (ps := ["told"]) (fun _ _ _ _ _ _ us hl => match us, hl with | [_], _ => rfl), PySem.W.mg_of X G a_bytes_answer⟩
  have D_refusal : Df K mg "refusal" s_refusal ["number"] f_refusal _ := ⟨F_refusal, F_refusal.binds (ps := ["number"]) (fun _ _ _ _ _ _ us hl => match us, hl with | [_], _ => rfl), PySem.W.mg_of X G a_refusal⟩
  have D_rounded : Df K mg "rounded" s_rounded ["dividend", "divisor"] f_rounded _ := ⟨F_rounded, F_rounded.binds (ps := ["dividend", "divisor"]) (fun _ _ _ _ _ _ us hl => match us, hl with | [_, _], _ => rfl), PySem.W.mg_of X G a_rounded⟩
  have D_line_value : Df K mg "line_value" s_line_value ["u", "v", "step", "steps"] f_line_value _ := ⟨F_line_value, F_line_value.binds (ps := ["u", "v", "step", "steps"]) (fun _ _ _ _ _ _ us hl => match us, hl with | [_, _, _, _], _ => rfl), PySem.W.mg_of X G a_line_value⟩
  have D_between : Df K mg "between" s_between ["u", "v", "step"] f_between _ := ⟨F_between, F_between.binds (ps := ["u", "v", "step"]) (fun _ _ _ _ _ _ us hl => match us, hl with | [_, _, _], _ => rfl), PySem.W.mg_of X G a_between⟩
  have D_fader_at : Df K mg "fader_at" s_fader_at ["tick", "level", "e"] f_fader_at _ := ⟨F_fader_at, F_fader_at.binds (ps := ["tick", "level", "e"]) (fun _ _ _ _ _ _ us hl => match us, hl with | [_, _, _], _ => rfl), PySem.W.mg_of X G a_fader_at⟩
  have D_touch_gain : Df K mg "touch_gain" s_touch_gain ["back", "tick", "old", "fader"] f_touch_gain _ := ⟨F_touch_gain, F_touch_gain.binds (ps := ["back", "tick", "old", "fader"]) (fun _ _ _ _ _ _ us hl => match us, hl with | [_, _, _, _], _ => rfl), PySem.W.mg_of X G a_touch_gain⟩
  have D_gain_heard : Df K mg "gain_heard" s_gain_heard ["mode", "back", "gain", "e", "tick", "old"] f_gain_heard _ := ⟨F_gain_heard, F_gain_heard.binds (ps := ["mode", "back", "gain", "e", "tick", "old"]) (fun _ _ _ _ _ _ us hl => match us, hl with | [_, _, _, _, _, _], _ => rfl), PySem.W.mg_of X G a_gain_heard⟩
  have D_are_events : Df K mg "are_events" s_are_events ["a", "b", "e"] f_are_events _ := ⟨F_are_events, F_are_events.binds (ps := ["a", "b", "e"]) (fun _ _ _ _ _ _ us hl => match us, hl with | [_, _, _], _ => rfl), PySem.W.mg_of X G a_are_events⟩
  have D_event_ticks : Df K mg "event_ticks" s_event_ticks ["back", "e"] f_event_ticks _ := ⟨F_event_ticks, F_event_ticks.binds (ps := ["back", "e"]) (fun _ _ _ _ _ _ us hl => match us, hl with | [_, _], _ => rfl), PySem.W.mg_of X G a_event_ticks⟩
  have D_two_bytes : Df K mg "two_bytes" s_two_bytes ["l", "place"] f_two_bytes _ := ⟨F_two_bytes, F_two_bytes.binds (ps := ["l", "place"]) (fun _ _ _ _ _ _ us hl => match us, hl with | [_, _], _ => rfl), PySem.W.mg_of X G a_two_bytes⟩
  have D_four_bytes : Df K mg "four_bytes" s_four_bytes ["l", "place"] f_four_bytes _ := ⟨F_four_bytes, F_four_bytes.binds (ps := ["l", "place"]) (fun _ _ _ _ _ _ us hl => match us, hl with | [_, _], _ => rfl), PySem.W.mg_of X G a_four_bytes⟩
  have D_point_fault : Df K mg "point_fault" s_point_fault ["l", "place", "tick_before", "gain_before"] f_point_fault _ := ⟨F_point_fault, F_point_fault.binds (ps := ["l", "place", "tick_before", "gain_before"]) (fun _ _ _ _ _ _ us hl => match us, hl with | [_, _, _, _], _ => rfl), PySem.W.mg_of X G a_point_fault⟩
  have D_lane_fault : Df K mg "lane_fault" s_lane_fault ["l"] f_lane_fault _ := ⟨F_lane_fault, F_lane_fault.binds (ps := ["l"]) (fun _ _ _ _ _ _ us hl => match us, hl with | [_], _ => rfl), PySem.W.mg_of X G a_lane_fault⟩
  have D_points_of : Df K mg "points_of" s_points_of ["l"] f_points_of _ := ⟨F_points_of, F_points_of.binds (ps := ["l"]) (fun _ _ _ _ _ _ us hl => match us, hl with | [_], _ => rfl), PySem.W.mg_of X G a_points_of⟩
  have D_gain_at : Df K mg "gain_at" s_gain_at ["points", "tick"] f_gain_at _ := ⟨F_gain_at, F_gain_at.binds (ps := ["points", "tick"]) (fun _ _ _ _ _ _ us hl => match us, hl with | [_, _], _ => rfl), PySem.W.mg_of X G a_gain_at⟩
  have D_ticks_of : Df K mg "ticks_of" s_ticks_of ["points"] f_ticks_of _ := ⟨F_ticks_of, F_ticks_of.binds (ps := ["points"]) (fun _ _ _ _ _ _ us hl => match us, hl with | [_], _ => rfl), PySem.W.mg_of X G a_ticks_of⟩
  have D_lane_ticks : Df K mg "lane_ticks" s_lane_ticks ["ticks"] f_lane_ticks _ := ⟨F_lane_ticks, F_lane_ticks.binds (ps := ["ticks"]) (fun _ _ _ _ _ _ us hl => match us, hl with | [_], _ => rfl), PySem.W.mg_of X G a_lane_ticks⟩
  have D_fewest : Df K mg "fewest" s_fewest ["points"] f_fewest _ := ⟨F_fewest, F_fewest.binds (ps := ["points"]) (fun _ _ _ _ _ _ us hl => match us, hl with | [_], _ => rfl), PySem.W.mg_of X G a_fewest⟩
  have D_low_first : Df K mg "low_first" s_low_first ["number", "many"] f_low_first _ := ⟨F_low_first, F_low_first.binds (ps := ["number", "many"]) (fun _ _ _ _ _ _ us hl => match us, hl with | [_, _], _ => rfl), PySem.W.mg_of X G a_low_first⟩
  have D_bytes_of : Df K mg "bytes_of" s_bytes_of ["points"] f_bytes_of _ := ⟨F_bytes_of, F_bytes_of.binds (ps := ["points"]) (fun _ _ _ _ _ _ us hl => match us, hl with | [_], _ => rfl), PySem.W.mg_of X G a_bytes_of⟩
  have D_lane_refusal : Df K mg "lane_refusal" s_lane_refusal ["l"] f_lane_refusal _ := ⟨F_lane_refusal, F_lane_refusal.binds (ps := ["l"]) (fun _ _ _ _ _ _ us hl => match us, hl with | [_], _ => rfl), PySem.W.mg_of X G a_lane_refusal⟩
  have D_lane_answer : Df K mg "lane_answer" s_lane_answer ["turns"] f_lane_answer _ := ⟨F_lane_answer, F_lane_answer.binds (ps := ["turns"]) (fun _ _ _ _ _ _ us hl => match us, hl with | [_], _ => rfl), PySem.W.mg_of X G a_lane_answer⟩
  have D_pass_refusal : Df K mg "pass_refusal" s_pass_refusal ["a", "b", "mode", "back", "l", "e"] f_pass_refusal _ := ⟨F_pass_refusal, F_pass_refusal.binds (ps := ["a", "b", "mode", "back", "l", "e"]) (fun _ _ _ _ _ _ us hl => match us, hl with | [_, _, _, _, _, _], _ => rfl), PySem.W.mg_of X G a_pass_refusal⟩
  have C_GREATEST_GAIN : Cn mg "GREATEST_GAIN" (65535) := ⟨_, PySem.W.mg_of X G g_GREATEST_GAIN⟩
  have C_TOUCHED : Cn mg "TOUCHED" (1) := ⟨_, PySem.W.mg_of X G g_TOUCHED⟩
  have C_GLIDE_STEPS : Cn mg "GLIDE_STEPS" (64) := ⟨_, PySem.W.mg_of X G g_GLIDE_STEPS⟩
  have C_EVENT_NUMBERS : Cn mg "EVENT_NUMBERS" (3) := ⟨_, PySem.W.mg_of X G g_EVENT_NUMBERS⟩
  have C_TOUCH_MODE : Cn mg "TOUCH_MODE" (1) := ⟨_, PySem.W.mg_of X G g_TOUCH_MODE⟩
  have C_LATCH_MODE : Cn mg "LATCH_MODE" (2) := ⟨_, PySem.W.mg_of X G g_LATCH_MODE⟩
  have C_WRITE_MODE : Cn mg "WRITE_MODE" (3) := ⟨_, PySem.W.mg_of X G g_WRITE_MODE⟩
  have C_TRIM_MODE : Cn mg "TRIM_MODE" (4) := ⟨_, PySem.W.mg_of X G g_TRIM_MODE⟩
  have C_GAIN_AS_IT_CAME : Cn mg "GAIN_AS_IT_CAME" (16384) := ⟨_, PySem.W.mg_of X G g_GAIN_AS_IT_CAME⟩
  have C_TICK_BYTES : Cn mg "TICK_BYTES" (4) := ⟨_, PySem.W.mg_of X G g_TICK_BYTES⟩
  have C_BYTES_END : Cn mg "BYTES_END" (1) := ⟨_, PySem.W.mg_of X G g_BYTES_END⟩
  have C_GREATEST_TICK : Cn mg "GREATEST_TICK" (16777215) := ⟨_, PySem.W.mg_of X G g_GREATEST_TICK⟩
  have C_LEAST_TICK : Cn mg "LEAST_TICK" (1) := ⟨_, PySem.W.mg_of X G g_LEAST_TICK⟩
  have C_NUMBER_OUT_OF_BOUNDS : Cn mg "NUMBER_OUT_OF_BOUNDS" (2) := ⟨_, PySem.W.mg_of X G g_NUMBER_OUT_OF_BOUNDS⟩
  have C_NOT_ANOTHER : Cn mg "NOT_ANOTHER" (3) := ⟨_, PySem.W.mg_of X G g_NOT_ANOTHER⟩
  have C_POINT_BYTES : Cn mg "POINT_BYTES" (6) := ⟨_, PySem.W.mg_of X G g_POINT_BYTES⟩
  have C_HEAD_BYTES : Cn mg "HEAD_BYTES" (4) := ⟨_, PySem.W.mg_of X G g_HEAD_BYTES⟩
  have C_COUNT_PLACE : Cn mg "COUNT_PLACE" (2) := ⟨_, PySem.W.mg_of X G g_COUNT_PLACE⟩
  have C_MOST_POINTS : Cn mg "MOST_POINTS" (64) := ⟨_, PySem.W.mg_of X G g_MOST_POINTS⟩
  have C_BYTES_LEFT_OVER : Cn mg "BYTES_LEFT_OVER" (4) := ⟨_, PySem.W.mg_of X G g_BYTES_LEFT_OVER⟩
  have C_GAIN_BYTES : Cn mg "GAIN_BYTES" (2) := ⟨_, PySem.W.mg_of X G g_GAIN_BYTES⟩
  have C_COUNT_BYTES : Cn mg "COUNT_BYTES" (2) := ⟨_, PySem.W.mg_of X G g_COUNT_BYTES⟩
  have C_MOST_LANE_BYTES : Cn mg "MOST_LANE_BYTES" (1024) := ⟨_, PySem.W.mg_of X G g_MOST_LANE_BYTES⟩
  have C_TOO_MANY : Cn mg "TOO_MANY" (-2) := ⟨_, PySem.W.mg_of X G g_TOO_MANY⟩
  have C_NO_LANE : Cn mg "NO_LANE" (-6) := ⟨_, PySem.W.mg_of X G g_NO_LANE⟩
  have C_TOO_MANY_POINTS : Cn mg "TOO_MANY_POINTS" (-3) := ⟨_, PySem.W.mg_of X G g_TOO_MANY_POINTS⟩
  have C_MOST_EVENT_NUMBERS : Cn mg "MOST_EVENT_NUMBERS" (192) := ⟨_, PySem.W.mg_of X G g_MOST_EVENT_NUMBERS⟩
  have C_LONGEST_WAY_BACK : Cn mg "LONGEST_WAY_BACK" (16) := ⟨_, PySem.W.mg_of X G g_LONGEST_WAY_BACK⟩
  have C_TICKS_END : Cn mg "TICKS_END" (16777216) := ⟨_, PySem.W.mg_of X G g_TICKS_END⟩
  have C_OUT_OF_BOUNDS : Cn mg "OUT_OF_BOUNDS" (-1) := ⟨_, PySem.W.mg_of X G g_OUT_OF_BOUNDS⟩
  have B_min : mg "min" = none := PySem.W.mg_none_of X G z_min
  have B_len : mg "len" = none := PySem.W.mg_none_of X G z_len
  have B_range : mg "range" = none := PySem.W.mg_none_of X G z_range
  have B_sorted : mg "sorted" = none := PySem.W.mg_none_of X G z_sorted
  have B_set : mg "set" = none := PySem.W.mg_none_of X G z_set
  refine ⟨PySem.W.fnOf "pass_of" "pass_of" (defArgs s_pass_of) (defBody s_pass_of) (defScope s_pass_of) .none kV_pass_of dc_pass_of pm_pass_of an_pass_of cd_pass_of ct_pass_of, fun s us hu => match us, hu with | [_, _, _, _, _, _, _], _ => .of_eq rfl, fun base _ _ => ?_⟩
  have G_held_gain := ok_held_gain (P := P) (w := w) (mg := mg) (base := base) F_held_gain C_GREATEST_GAIN B_min
  have G_Fader_init := ok_Fader_init (P := P) (w := w) (mg := mg) (base := base) (C := C) F_Fader_init G_held_gain D_held_gain T
  have G_Fader_take := ok_Fader_take (P := P) (w := w) (mg := mg) (base := base) (C := C) F_Fader_take G_held_gain D_held_gain T C_TOUCHED
  have G_answer := ok_answer (P := P) (w := w) (mg := mg) (base := base) F_answer B_len
  have G_bytes_answer := ok_bytes_answer (P := P) (w := w) (mg := mg) (base := base) F_bytes_answer B_len
  have G_refusal := ok_refusal (P := P) (w := w) (mg := mg) (base := base) F_refusal G_answer D_answer
  have G_rounded := ok_rounded (P := P) (w := w) (mg := mg) (base := base) F_rounded
  have G_line_value := ok_line_value (P := P) (w := w) (mg := mg) (base := base) F_line_value G_rounded D_rounded
  have G_between := ok_between (P := P) (w := w) (mg := mg) (base := base) F_between G_line_value D_line_value C_GLIDE_STEPS
  have G_fader_at := ok_fader_at (P := P) (w := w) (mg := mg) (base := base) (C := C) F_fader_at T G_Fader_take ⟨a_Fader_take, i_Fader_take, k_Fader_take⟩ b_Fader_take G_Fader_init ⟨mk, a_Fader_init, i_Fader_init, kc⟩ (PySem.W.mg_of X G aC) b_Fader_init C_EVENT_NUMBERS B_range B_len
  have G_touch_gain := ok_touch_gain (P := P) (w := w) (mg := mg) (base := base) (C := C) F_touch_gain G_between D_between T C_GLIDE_STEPS
  have G_gain_heard := ok_gain_heard (P := P) (w := w) (mg := mg) (base := base) (C := C) F_gain_heard G_fader_at D_fader_at G_touch_gain D_touch_gain G_held_gain D_held_gain G_rounded D_rounded T C_TOUCH_MODE C_LATCH_MODE C_WRITE_MODE C_TRIM_MODE C_GAIN_AS_IT_CAME
  have G_are_events := ok_are_events (P := P) (w := w) (mg := mg) (base := base) F_are_events C_EVENT_NUMBERS C_TOUCHED B_len B_range
  have G_event_ticks := ok_event_ticks (P := P) (w := w) (mg := mg) (base := base) F_event_ticks C_EVENT_NUMBERS B_range B_len
  have G_two_bytes := ok_two_bytes (P := P) (w := w) (mg := mg) (base := base) F_two_bytes
  have G_four_bytes := ok_four_bytes (P := P) (w := w) (mg := mg) (base := base) F_four_bytes G_two_bytes D_two_bytes
  have G_point_fault := ok_point_fault (P := P) (w := w) (mg := mg) (base := base) F_point_fault G_four_bytes D_four_bytes G_two_bytes D_two_bytes C_TICK_BYTES C_BYTES_END C_GREATEST_TICK C_LEAST_TICK C_NUMBER_OUT_OF_BOUNDS C_NOT_ANOTHER C_POINT_BYTES B_len
  have G_lane_fault := ok_lane_fault (P := P) (w := w) (mg := mg) (base := base) F_lane_fault G_two_bytes D_two_bytes G_point_fault D_point_fault G_four_bytes D_four_bytes C_HEAD_BYTES C_BYTES_END C_COUNT_PLACE C_MOST_POINTS C_NUMBER_OUT_OF_BOUNDS C_POINT_BYTES C_TICK_BYTES C_BYTES_LEFT_OVER B_len B_range
  have G_points_of := ok_points_of (P := P) (w := w) (mg := mg) (base := base) F_points_of G_two_bytes D_two_bytes G_four_bytes D_four_bytes C_POINT_BYTES C_HEAD_BYTES C_TICK_BYTES B_range B_len
  have G_gain_at := ok_gain_at (P := P) (w := w) (mg := mg) (base := base) F_gain_at
  have G_ticks_of := ok_ticks_of (P := P) (w := w) (mg := mg) (base := base) F_ticks_of
  have G_lane_ticks := ok_lane_ticks (P := P) (w := w) (mg := mg) (base := base) F_lane_ticks C_GREATEST_TICK B_sorted B_set
  have G_fewest := ok_fewest (P := P) (w := w) (mg := mg) (base := base) F_fewest B_range B_len
  have G_low_first := ok_low_first (P := P) (w := w) (mg := mg) (base := base) F_low_first B_range
  have G_bytes_of := ok_bytes_of (P := P) (w := w) (mg := mg) (base := base) F_bytes_of G_low_first D_low_first C_GAIN_BYTES C_COUNT_BYTES C_TICK_BYTES B_len
  have G_lane_refusal := ok_lane_refusal (P := P) (w := w) (mg := mg) (base := base) F_lane_refusal G_refusal D_refusal G_lane_fault D_lane_fault G_answer D_answer C_MOST_LANE_BYTES C_TOO_MANY C_NO_LANE B_len
  have G_lane_answer := ok_lane_answer (P := P) (w := w) (mg := mg) (base := base) F_lane_answer G_bytes_answer D_bytes_answer G_bytes_of D_bytes_of G_fewest D_fewest G_refusal D_refusal C_MOST_POINTS C_TOO_MANY_POINTS B_len
  have G_pass_refusal := ok_pass_refusal (P := P) (w := w) (mg := mg) (base := base) F_pass_refusal G_refusal D_refusal G_lane_refusal D_lane_refusal G_are_events D_are_events C_MOST_EVENT_NUMBERS C_TOO_MANY C_LONGEST_WAY_BACK C_TRIM_MODE C_TICKS_END C_OUT_OF_BOUNDS B_len
  exact ok_pass_of F_pass_of G_lane_answer D_lane_answer G_pass_refusal D_pass_refusal G_points_of D_points_of G_lane_ticks D_lane_ticks G_ticks_of D_ticks_of G_event_ticks D_event_ticks G_gain_at D_gain_at G_gain_heard D_gain_heard
end Law
open PySem PySem.W PyProof.Rows
set_option maxRecDepth 100000 in
set_option maxHeartbeats 0 in
theorem PySem.Challenge.cw_lanedesk_s11_pass_of_holds : PySem.Challenge.rw_lanedesk_s11_pass_of.Holds := by
  w_on; k_headS; (case hw => exact ⟨[.int 0, .int 0, .int 0, .int 0, .int 0, .list [], .list []], by decide +kernel, by decide +kernel⟩)
  k_fillS
  refine L2.walk_specK (r := PySem.Challenge.rw_lanedesk_s11_pass_of) (k := 7) (CX := L2.CX0) (ps := ["a", "b", "mode", "back", "gain", "l", "e"]) (sp := LD.spPass) (by decide +kernel) rfl rfl ⟨rfl, by decide, by decide⟩ (fun w h Y => PySem.W.kIn_of Y) ?F ?S (fun _ _ _ _ z => z)
  case F =>
    intro w mg fa h Y KX G hmg
    refine' Law.all_mk KX G hmg ?aC ?pg ?hd ?po ?sa ?mk ?kc ?nf_0 ?nf_1 ?nf_2 ?nf_3 ?a_held_gain ?l_held_gain ?c_held_gain ?k_held_gain ?a_Fader_init ?i_Fader_init ?l_Fader_init ?c_Fader_init ?k_Fader_init ?a_Fader_take ?i_Fader_take ?l_Fader_take ?c_Fader_take ?k_Fader_take ?a_answer ?l_answer ?c_answer ?k_answer ?a_bytes_answer ?l_bytes_answer ?c_bytes_answer ?k_bytes_answer ?a_refusal ?l_refusal ?c_refusal ?k_refusal ?a_rounded ?l_rounded ?c_rounded ?k_rounded ?a_line_value ?l_line_value ?c_line_value ?k_line_value ?a_between ?l_between ?c_between ?k_between ?a_fader_at ?l_fader_at ?c_fader_at ?k_fader_at ?a_touch_gain ?l_touch_gain ?c_touch_gain ?k_touch_gain ?a_gain_heard ?l_gain_heard ?c_gain_heard ?k_gain_heard ?a_are_events ?l_are_events ?c_are_events ?k_are_events ?a_event_ticks ?l_event_ticks ?c_event_ticks ?k_event_ticks ?a_two_bytes ?l_two_bytes ?c_two_bytes ?k_two_bytes ?a_four_bytes ?l_four_bytes ?c_four_bytes ?k_four_bytes ?a_point_fault ?l_point_fault ?c_point_fault ?k_point_fault ?a_lane_fault ?l_lane_fault ?c_lane_fault ?k_lane_fault ?a_points_of ?l_points_of ?c_points_of ?k_points_of ?a_gain_at ?l_gain_at ?c_gain_at ?k_gain_at ?a_ticks_of ?l_ticks_of ?c_ticks_of ?k_ticks_of ?a_lane_ticks ?l_lane_ticks ?c_lane_ticks ?k_lane_ticks ?a_fewest ?l_fewest ?c_fewest ?k_fewest ?a_low_first ?l_low_first ?c_low_first ?k_low_first ?a_bytes_of ?l_bytes_of ?c_bytes_of ?k_bytes_of ?a_lane_refusal ?l_lane_refusal ?c_lane_refusal ?k_lane_refusal ?a_lane_answer ?l_lane_answer ?c_lane_answer ?k_lane_answer ?a_pass_refusal ?l_pass_refusal ?c_pass_refusal ?k_pass_refusal ?a_pass_of ?l_pass_of ?c_pass_of ?k_pass_of ?g_GREATEST_GAIN ?g_TOUCHED ?g_GLIDE_STEPS ?g_EVENT_NUMBERS ?g_TOUCH_MODE ?g_LATCH_MODE ?g_WRITE_MODE ?g_TRIM_MODE ?g_GAIN_AS_IT_CAME ?g_TICK_BYTES ?g_BYTES_END ?g_GREATEST_TICK ?g_LEAST_TICK ?g_NUMBER_OUT_OF_BOUNDS ?g_NOT_ANOTHER ?g_POINT_BYTES ?g_HEAD_BYTES ?g_COUNT_PLACE ?g_MOST_POINTS ?g_BYTES_LEFT_OVER ?g_GAIN_BYTES ?g_COUNT_BYTES ?g_MOST_LANE_BYTES ?g_TOO_MANY ?g_NO_LANE ?g_TOO_MANY_POINTS ?g_MOST_EVENT_NUMBERS ?g_LONGEST_WAY_BACK ?g_TICKS_END ?g_OUT_OF_BOUNDS ?z_min ?z_len ?z_range ?z_sorted ?z_set
    (case aC => k_is)
    (case pg => k_is)
    (case hd => k_is)
    (case po => k_is)
    (case sa => k_is)
    (case mk => k_is)
    (case kc => k_is)
    (case nf_0 => k_is)
    (case nf_1 => k_is)
    (case nf_2 => k_is)
    (case nf_3 => k_is)
    (case a_held_gain => k_is)
    (case l_held_gain => k_is)
    (case c_held_gain => k_is)
    (case k_held_gain => k_is)
    (case a_Fader_init => k_is)
    (case i_Fader_init => k_is)
    (case l_Fader_init => k_is)
    (case c_Fader_init => k_is)
    (case k_Fader_init => k_is)
    (case a_Fader_take => k_is)
    (case i_Fader_take => k_is)
    (case l_Fader_take => k_is)
    (case c_Fader_take => k_is)
    (case k_Fader_take => k_is)
    (case a_answer => k_is)
    (case l_answer => k_is)
    (case c_answer => k_is)
    (case k_answer => k_is)
    (case a_bytes_answer => k_is)
    (case l_bytes_answer => k_is)
    (case c_bytes_answer => k_is)
    (case k_bytes_answer => k_is)
    (case a_refusal => k_is)
    (case l_refusal => k_is)
    (case c_refusal => k_is)
    (case k_refusal => k_is)
    (case a_rounded => k_is)
    (case l_rounded => k_is)
    (case c_rounded => k_is)
    (case k_rounded => k_is)
    (case a_line_value => k_is)
    (case l_line_value => k_is)
    (case c_line_value => k_is)
    (case k_line_value => k_is)
    (case a_between => k_is)
    (case l_between => k_is)
    (case c_between => k_is)
    (case k_between => k_is)
    (case a_fader_at => k_is)
    (case l_fader_at => k_is)
    (case c_fader_at => k_is)
    (case k_fader_at => k_is)
    (case a_touch_gain => k_is)
    (case l_touch_gain => k_is)
    (case c_touch_gain => k_is)
    (case k_touch_gain => k_is)
    (case a_gain_heard => k_is)
    (case l_gain_heard => k_is)
    (case c_gain_heard => k_is)
    (case k_gain_heard => k_is)
    (case a_are_events => k_is)
    (case l_are_events => k_is)
    (case c_are_events => k_is)
    (case k_are_events => k_is)
    (case a_event_ticks => k_is)
    (case l_event_ticks => k_is)
    (case c_event_ticks => k_is)
    (case k_event_ticks => k_is)
    (case a_two_bytes => k_is)
    (case l_two_bytes => k_is)
    (case c_two_bytes => k_is)
    (case k_two_bytes => k_is)
    (case a_four_bytes => k_is)
    (case l_four_bytes => k_is)
    (case c_four_bytes => k_is)
    (case k_four_bytes => k_is)
    (case a_point_fault => k_is)
    (case l_point_fault => k_is)
    (case c_point_fault => k_is)
    (case k_point_fault => k_is)
    (case a_lane_fault => k_is)
    (case l_lane_fault => k_is)
    (case c_lane_fault => k_is)
    (case k_lane_fault => k_is)
    (case a_points_of => k_is)
    (case l_points_of => k_is)
    (case c_points_of => k_is)
    (case k_points_of => k_is)
    (case a_gain_at => k_is)
    (case l_gain_at => k_is)
    (case c_gain_at => k_is)
    (case k_gain_at => k_is)
    (case a_ticks_of => k_is)
    (case l_ticks_of => k_is)
    (case c_ticks_of => k_is)
    (case k_ticks_of => k_is)
    (case a_lane_ticks => k_is)
    (case l_lane_ticks => k_is)
    (case c_lane_ticks => k_is)
    (case k_lane_ticks => k_is)
    (case a_fewest => k_is)
    (case l_fewest => k_is)
    (case c_fewest => k_is)
    (case k_fewest => k_is)
    (case a_low_first => k_is)
    (case l_low_first => k_is)
    (case c_low_first => k_is)
    (case k_low_first => k_is)
    (case a_bytes_of => k_is)
    (case l_bytes_of => k_is)
    (case c_bytes_of => k_is)
    (case k_bytes_of => k_is)
    (case a_lane_refusal => k_is)
    (case l_lane_refusal => k_is)
    (case c_lane_refusal => k_is)
    (case k_lane_refusal => k_is)
    (case a_lane_answer => k_is)
    (case l_lane_answer => k_is)
    (case c_lane_answer => k_is)
    (case k_lane_answer => k_is)
    (case a_pass_refusal => k_is)
    (case l_pass_refusal => k_is)
    (case c_pass_refusal => k_is)
    (case k_pass_refusal => k_is)
    (case a_pass_of => k_is)
    (case l_pass_of => k_is)
    (case c_pass_of => k_is)
    (case k_pass_of => k_is)
    (case g_GREATEST_GAIN => k_is)
    (case g_TOUCHED => k_is)
    (case g_GLIDE_STEPS => k_is)
    (case g_EVENT_NUMBERS => k_is)
    (case g_TOUCH_MODE => k_is)
    (case g_LATCH_MODE => k_is)
    (case g_WRITE_MODE => k_is)
    (case g_TRIM_MODE => k_is)
    (case g_GAIN_AS_IT_CAME => k_is)
    (case g_TICK_BYTES => k_is)
    (case g_BYTES_END => k_is)
    (case g_GREATEST_TICK => k_is)
    (case g_LEAST_TICK => k_is)
    (case g_NUMBER_OUT_OF_BOUNDS => k_is)
    (case g_NOT_ANOTHER => k_is)
    (case g_POINT_BYTES => k_is)
    (case g_HEAD_BYTES => k_is)
    (case g_COUNT_PLACE => k_is)
    (case g_MOST_POINTS => k_is)
    (case g_BYTES_LEFT_OVER => k_is)
    (case g_GAIN_BYTES => k_is)
    (case g_COUNT_BYTES => k_is)
    (case g_MOST_LANE_BYTES => k_is)
    (case g_TOO_MANY => k_is)
    (case g_NO_LANE => k_is)
    (case g_TOO_MANY_POINTS => k_is)
    (case g_MOST_EVENT_NUMBERS => k_is)
    (case g_LONGEST_WAY_BACK => k_is)
    (case g_TICKS_END => k_is)
    (case g_OUT_OF_BOUNDS => k_is)
    (case z_min => k_is)
    (case z_len => k_is)
    (case z_range => k_is)
    (case z_sorted => k_is)
    (case z_set => k_is)
  case S =>
    intro K H xs a hO hwi hask hx
    cases hx with
    | cons h1 h2 =>
     cases h2 with
     | cons h2 h3 =>
      cases h3 with
      | cons h3 h4 =>
       cases h4 with
       | cons h4 h5 =>
        cases h5 with
        | cons h5 h6 =>
         cases h6 with
         | cons h6 h7 =>
          cases h7 with
          | cons h7 h8 =>
            cases h8
            cases h1
            cases h2
            cases h3
            cases h4
            cases h5
            cases h6 with
            | lst hs ha =>
              cases h7 with
              | lst ht hb =>
                have e := L2.ints_dw a.2.2.2.2.2.1 _ ha
                subst e
                have e := L2.ints_dw a.2.2.2.2.2.2.1 _ hb
                subst e
                have q : (Codec.inInt 0 18446744073709551615 a.1 && (Codec.inInt 0 18446744073709551615 a.2.1 && (Codec.inInt 0 18446744073709551615 a.2.2.1 && (Codec.inInt 0 18446744073709551615 a.2.2.2.1 && (Codec.inInt 0 18446744073709551615 a.2.2.2.2.1 && ((Codec.inLen 0 3000 a.2.2.2.2.2.1 && a.2.2.2.2.2.1.all (Codec.inInt 0 255)) && ((Codec.inLen 0 600 a.2.2.2.2.2.2.1 && a.2.2.2.2.2.2.1.all (Codec.inInt 0 18446744073709551615)) && true))))))) = true := hwi
                simp only [Bool.and_eq_true] at q
                exact ⟨a.1, a.2.1, a.2.2.1, a.2.2.2.1, a.2.2.2.2.1, _, _, a.2.2.2.2.2.1, a.2.2.2.2.2.2.1, rfl, hs, ht, fun z hz => Codec.inInt_iff.mp (List.all_eq_true.mp q.2.2.2.2.2.1.2 z hz), fun z hz => (Codec.inInt_iff.mp (List.all_eq_true.mp q.2.2.2.2.2.2.1.2 z hz)).1, (Codec.inNat_iff.mp q.2.2.2.2.2.2.1.1).2, ⟨(Codec.inInt_iff.mp q.1).1, (Codec.inInt_iff.mp q.2.1).1, (Codec.inInt_iff.mp q.2.2.1).1, (Codec.inInt_iff.mp q.2.2.2.1).1, (Codec.inInt_iff.mp q.2.2.2.2.1).1⟩, fun H' p _ _ hp => .lst (L2.SqL.of hp) (L2.dw_ints _)⟩
#print axioms PySem.Challenge.cw_lanedesk_s11_pass_of_holds

