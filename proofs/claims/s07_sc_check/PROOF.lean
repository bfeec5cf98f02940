import PyProof.Rows.All
import Wide.All
import OpenK.AllK
import Wide.FinOn
import PyProof.EqAt
import PyProof.EqKinds
import PyProof.TupleCall
import KE.BitLaws
import Open.SpecLaws
import KE.OsHead
import KE.OsGo
import PySem.Challenge.RW_bychance_s07_sc_check
set_option Elab.async false
set_option linter.all false
set_option maxRecDepth 100000
/-! THE HAND LAYER, for ints, bools, texts, own classes, lists, tuples, dicts, comprehensions, walks over dicts, enumerate, zip, reversed, texts, calls, loops. Paste it whole ahead of your own text; what your proof does not reach may be deleted. -/
namespace L2
open PySem PySem.Spec PyProof.Rows

/-- a key: an int or a str -/
abbrev Key := Sum Int Str
def keyIs : Key → Value → Bool
  | .inl k, v => Value.isInt k v
  | .inr x, v => Value.isStrOf x v
def keyH (w : World) : Key → Int
  | .inl k => hashInt k
  | .inr x => hashStr w x
theorem keyIs_shape : ∀ {k : Key} {v : Value}, keyIs k v = true → (∃ i t, k = Sum.inl i ∧ v = Value.int i t) ∨ (∃ x t, k = Sum.inr x ∧ v = Value.str x t)
  | .inl i, v, h => by
    obtain ⟨t, e⟩ := Value.isInt_shape (k := i) (v := v) h
    exact .inl ⟨i, t, rfl, e⟩
  | .inr x, v, h => by
    obtain ⟨t, e⟩ := Value.isStrOf_shape (x := x) (v := v) h
    exact .inr ⟨x, t, rfl, e⟩
theorem key_ll (a b : Int) : decide ((Sum.inl a : Key) = Sum.inl b) = (a == b) := by
  by_cases e : a = b
  · subst e; simp
  · have h : ¬ (Sum.inl a : Key) = Sum.inl b := fun q => e (Sum.inl.inj q)
    rw [decide_eq_false h]
    exact (beq_eq_false_iff_ne.mpr e).symm
theorem key_rr (a b : Str) : decide ((Sum.inr a : Key) = Sum.inr b) = decide (a = b) := by
  by_cases e : a = b
  · subst e; simp
  · have h : ¬ (Sum.inr a : Key) = Sum.inr b := fun q => e (Sum.inr.inj q)
    rw [decide_eq_false h, decide_eq_false e]
theorem key_lr (a : Int) (b : Str) : decide ((Sum.inl a : Key) = Sum.inr b) = false := decide_eq_false (fun q => nomatch q)
theorem key_rl (a : Str) (b : Int) : decide ((Sum.inr a : Key) = Sum.inl b) = false := decide_eq_false (fun q => nomatch q)

def mixKind (prog : Program) (w : World) : PySem.KeyKind prog w Key where
  is := keyIs
  hash := keyH w
  inj := fun v a b ha hb => by
    rcases keyIs_shape ha with ⟨i, t, rfl, rfl⟩ | ⟨x, t, rfl, rfl⟩
    · rcases keyIs_shape hb with ⟨j, u, rfl, e⟩ | ⟨y, u, rfl, e⟩
      · injection e with e1 _; rw [e1]
      · exact nomatch e
    · rcases keyIs_shape hb with ⟨j, u, rfl, e⟩ | ⟨y, u, rfl, e⟩
      · exact nomatch e
      · injection e with e1 _; rw [e1]
  byValue := fun k v h => by
    rcases keyIs_shape h with ⟨i, t, rfl, rfl⟩ | ⟨x, t, rfl, rfl⟩ <;> rfl
  pyHash := fun hv h => by
    rcases keyIs_shape hv with ⟨i, t, rfl, rfl⟩ | ⟨x, t, rfl, rfl⟩
    · exact wpAny_pyHash_int h
    · exact wpAny_pyHash_str h
  eqBool := fun hu hv h => by
    rcases keyIs_shape hu with ⟨i, t, rfl, rfl⟩ | ⟨x, t, rfl, rfl⟩
    · rcases keyIs_shape hv with ⟨j, u, rfl, rfl⟩ | ⟨y, u, rfl, rfl⟩
      · rw [key_ll] at h; exact wpAny_eqBool_int h
      · rw [key_lr] at h; exact SeqAt.EqAt.int_str i t y u _ _ _ _ h
    · rcases keyIs_shape hv with ⟨j, u, rfl, rfl⟩ | ⟨y, u, rfl, rfl⟩
      · rw [key_rl] at h; exact SeqAt.EqAt.str_int x t j u _ _ _ _ h
      · rw [key_rr] at h; exact wpAny_eqBool_str h
  «strs» := fun k x t v h => by
    rcases keyIs_shape h with ⟨i, u, rfl, e⟩ | ⟨y, u, rfl, e⟩
    · exact nomatch e
    · injection e with e1 _
      subst e1
      cases v <;> rfl

end L2

namespace L2
open PySem PySem.Spec PyProof.Rows

/-- a value, without the heap -/
inductive V where
  | non | bl (b : Bool) | int (i : Int) | str (x : Str) | byt (b : Array UInt8) | flt (b : UInt64) | ref (a : Addr) | ty (n : String)
  deriving DecidableEq

def RelV : V → Value → Prop
  | .non, u => u = Value.none
  | .bl b, u => u = Value.bool b
  | .int i, u => ∃ t, u = Value.int i t
  | .str x, u => ∃ t, u = Value.str x t
  | .byt b, u => ∃ t, u = Value.bytes b t
  | .flt b, u => ∃ t, u = Value.float b t
  | .ref a, u => u = Value.ref a
  | .ty n, u => u = Value.type n

abbrev Vals : List V → List Value → Prop := Paired RelV
theorem Vals.length {xs : List V} {us : List Value} (r : Vals xs us) : xs.length = us.length := Paired.length r
theorem Vals.get : ∀ {xs : List V} {us : List Value} {i : Nat} {x : V}, Vals xs us → xs[i]? = some x → ∃ u, us[i]? = some u ∧ RelV x u
  | _, _, _, _, .nil, e => by simp at e
  | _, _, 0, _, .cons r _, e => by simp at e; subst e; exact ⟨_, rfl, r⟩
  | _, _, i + 1, x, .cons _ t, e => by
    obtain ⟨u, h1, h2⟩ := Vals.get (i := i) (x := x) t (by simpa using e)
    exact ⟨u, by simpa using h1, h2⟩
theorem Vals.set {x : V} {u : Value} (r : RelV x u) : ∀ {xs : List V} {us : List Value} (i : Nat), Vals xs us → Vals (xs.set i x) (us.set i u)
  | _, _, _, .nil => .nil
  | _, _, 0, .cons _ t => .cons r t
  | _, _, i + 1, .cons q t => .cons q (Vals.set r i t)
theorem Vals.append : ∀ {xs ys : List V} {us ws : List Value}, Vals xs us → Vals ys ws → Vals (xs ++ ys) (us ++ ws)
  | _, _, _, _, .nil, s => s
  | _, _, _, _, .cons r t, s => .cons r (Vals.append t s)
theorem Vals.take : ∀ {xs : List V} {us : List Value} (n : Nat), Vals xs us → Vals (xs.take n) (us.take n)
  | _, _, 0, _ => .nil
  | _, _, _ + 1, .nil => .nil
  | _, _, n + 1, .cons r t => .cons r (Vals.take n t)
theorem Vals.drop : ∀ {xs : List V} {us : List Value} (n : Nat), Vals xs us → Vals (xs.drop n) (us.drop n)
  | _, _, 0, r => r
  | _, _, _ + 1, .nil => .nil
  | _, _, n + 1, .cons _ t => Vals.drop n t

def RelO : Option V → Option Value → Prop
  | some v, some u => RelV v u
  | none, none => True
  | _, _ => False
def KV {κ : Type} : List (κ × V) → List (κ × Value) → Prop := Paired fun (p : κ × V) (q : κ × Value) => p.1 = q.1 ∧ RelV p.2 q.2

/-- a key of a dict (00_mix): an int or a text -/
def kV : Key → V
  | .inl i => .int i
  | .inr x => .str x

/-- what stands at a tracked address -/
inductive HO where
  /-- a list -/
  | lst (xs : List V)
  /-- a tuple (never changes) -/
  | tup (xs : List V)
  /-- a dict whose keys are ints and texts; one whose keys are tuples of ints and texts (the empty one is both) -/
  | dK (kvs : List (Key × V)) | dT (kvs : List (List Key × V))
  /-- a set of ints: its members, its size -/
  | set (S : Int → Bool) (n : Nat)
  /-- an instance of the class at C, its dict at dx, its attributes -/
  | ins (C dx : Addr) (fs : List (Str × V))
  /-- the dict of the instance at x -/
  | own (x : Addr)
  /-- the dict of an exception -/
  | xd (fs : List (Str × V))
  /-- a bound method, f of x -/
  | met (f x : Addr)
  /-- a range object lo, lo + 1, .. below hi -/
  | rng (lo hi : Int)
  /-- a thing that is known to the object (the script; a dict while a loop walks it): read, never written while it is so -/
  | frz (o : Obj) (u : HO)
  /-- a code object's table -/
  | tbl (ps : Array Value)
  /-- any other thing, by what is true of its one object (a def of one's own: SetO a S n := HO.ext fun h => ..) -/
  | ext (φ : Heap → Prop)

abbrev Hp := Addr → Option HO
def upd (H : Hp) (a : Addr) (o : HO) : Hp := fun b => if b = a then some o else H b
theorem upd_same {H : Hp} {a : Addr} {o : HO} : upd H a o a = some o := by unfold upd; rw [if_pos rfl]
theorem upd_ne {H : Hp} {a b : Addr} {o : HO} (h : b ≠ a) : upd H a o b = H b := by unfold upd; rw [if_neg h]
theorem upd_upd {H : Hp} {a : Addr} {o u : HO} : upd (upd H a o) a u = upd H a u := by
  funext b; unfold upd; split <;> rfl
theorem ne_of_none {H : Hp} {a b : Addr} {o : HO} (h : H a = some o) (h' : H b = none) : a ≠ b := by
  intro e; subst e; rw [h] at h'; cases h'

section
variable (P : Program) (w : World)
def ObjOk (H : Hp) (h : Heap) (a : Addr) : HO → Prop
  | .lst xs => xs.length ≤ sizeLine ∧ ∃ (its : List Value) (n : Nat), Vals xs its ∧ h.get? a = some { cls := .type "list", data := .seq its.toArray n }
  | .tup xs => xs.length ≤ sizeLine ∧ ∃ its : List Value, Vals xs its ∧ IsTup h a its.toArray
  | .dK kvs => kvs.length ≤ sizeLine ∧ (a == sysModules) = false ∧ ∃ vs, KV kvs vs ∧ h.DictOf (mixKind P w) a vs
  | .dT kvs => kvs.length ≤ sizeLine ∧ (a == sysModules) = false ∧ ∃ xs : List (List Key × Addr × Value),
      Paired (fun (p : List Key × V) (q : List Key × Addr × Value) => p.1 = q.1 ∧ H q.2.1 = some (.tup (p.1.map kV)) ∧ RelV p.2 q.2.2) kvs xs ∧
      ∃ o es ep, h.get? a = some o ∧ o.ExactDict ∧ o.data = .dict es ep ∧ es.toList = xs.map (entryOfKey (tupleKind (mixKind P w))) ∧ (xs.map (·.1)).Nodup
  | .set S n => h.SetOf (intKind P w) a S n
  | .ins C dx fs => H dx = some (.own a) ∧ fs.length ≤ 1000 ∧ dx ≠ a ∧ h.get? a = some (PySem.W.instObj C dx) ∧
      ∃ mA, h.Ns1 dx mA ∧ (∀ f, RelO (fs.lookup f) (mA f)) ∧ PySem.Within mA (fs.map (·.1))
  | .own _ => ∃ o, h.get? a = some o
  | .xd fs => ∃ mA, h.Ns1 a mA ∧ ∀ f, RelO (fs.lookup f) (mA f)
  | .rng lo hi => ∃ t u v, h.get? a = some { cls := .type "range", data := .fields #[.int lo t, .int hi u, .int 1 v] }
  | .frz o u => h.get? a = some o ∧ ObjOk H h a u
  | .tbl ps => h.get? a = some { cls := .none, data := .fields ps }
  | .met f x => h.get? a = some (PySem.W.methodObj (.ref f) (.ref x))
  | .ext φ => φ h ∧ (∃ o, h.get? a = some o) ∧ ∀ h1 h2 : Heap, φ h1 → (∀ o, h1.get? a = some o → h2.get? a = some o) → φ h2
/-- the abstract heap is held -/
def HOk (H : Hp) (h : Heap) : Prop := ∀ a o, H a = some o → ObjOk P w H h a o
end

section
variable {P : Program} {w : World} {H H' : Hp} {h h' : Heap} {a : Addr} {o : HO}
theorem ObjOk.lt (x : ObjOk P w H h a o) : a < h.objs.size := by
  cases o with
  | lst xs => obtain ⟨_, _, _, _, e⟩ := x; exact Heap.lt_size e
  | tup xs => obtain ⟨_, _, _, p⟩ := x; exact p.lt
  | dK kvs => obtain ⟨_, _, _, _, o, _, _, e, _⟩ := x; exact Heap.lt_size e
  | dT kvs => obtain ⟨_, _, _, _, o, _, _, e, _⟩ := x; exact Heap.lt_size e
  | set S n => obtain ⟨o, _, _, _, e, _⟩ := x; exact Heap.lt_size e
  | ins C dx fs => obtain ⟨_, _, _, e, _⟩ := x; exact Heap.lt_size e
  | own y => obtain ⟨_, e⟩ := x; exact Heap.lt_size e
  | xd fs => obtain ⟨_, ⟨_, _, _, e, _⟩, _⟩ := x; exact Heap.lt_size e
  | rng lo hi => obtain ⟨_, _, _, e⟩ := x; exact Heap.lt_size e
  | frz ob u => obtain ⟨e, _⟩ := x; exact Heap.lt_size e
  | tbl ps => exact Heap.lt_size (show h.get? a = some _ from x)
  | met f y => exact Heap.lt_size (show h.get? a = some _ from x)
  | ext φ => obtain ⟨_, ⟨_, e⟩, _⟩ := x; exact Heap.lt_size e
theorem Paired.mapP {α β : Type} {F G : α → β → Prop} : ∀ {l₁ : List α} {l₂ : List β}, Paired F l₁ l₂ → (∀ a b, F a b → G a b) → Paired G l₁ l₂
  | _, _, .nil, _ => .nil
  | _, _, .cons r t, f => .cons (f _ _ r) (Paired.mapP t f)
/-- what an object's description leans on: its own object, its own dict, the tuples -/
theorem ObjOk.stay (x : ObjOk P w H h a o) (k : ∀ b u, (b = a ∨ H b = some (.own a)) → h.get? b = some u → h'.get? b = some u)
    (ho : ∀ b, H b = some (.own a) → H' b = some (.own a)) (ht : ∀ b xs, H b = some (.tup xs) → H' b = some (.tup xs)) : ObjOk P w H' h' a o := by
  induction o with
  | lst xs => obtain ⟨z, its, n, r, e⟩ := x; exact ⟨z, its, n, r, k _ _ (.inl rfl) e⟩
  | tup xs => obtain ⟨z, its, r, ob, e, c⟩ := x; exact ⟨z, its, r, ob, k _ _ (.inl rfl) e, c⟩
  | dK kvs => obtain ⟨z, y, vs, r, ob, es, ep, e, c⟩ := x; exact ⟨z, y, vs, r, ob, es, ep, k _ _ (.inl rfl) e, c⟩
  | dT kvs =>
    obtain ⟨z, y, xs, r, ob, es, ep, e, c⟩ := x
    exact ⟨z, y, xs, Paired.mapP r fun p q z => ⟨z.1, ht _ _ z.2.1, z.2.2⟩, ob, es, ep, k _ _ (.inl rfl) e, c⟩
  | set S n => obtain ⟨ob, es, ep, t, e, c⟩ := x; exact ⟨ob, es, ep, t, k _ _ (.inl rfl) e, c⟩
  | ins C dx fs =>
    obtain ⟨d, z, ne, e, mA, ⟨od, es, ep, e2, c⟩, r⟩ := x
    exact ⟨ho _ d, z, ne, k _ _ (.inl rfl) e, mA, ⟨od, es, ep, k _ _ (.inr d) e2, c⟩, r⟩
  | own y => obtain ⟨ob, e⟩ := x; exact ⟨ob, k _ _ (.inl rfl) e⟩
  | xd fs => obtain ⟨mA, ⟨od, es, ep, e, c⟩, r⟩ := x; exact ⟨mA, ⟨od, es, ep, k _ _ (.inl rfl) e, c⟩, r⟩
  | rng lo hi => obtain ⟨t, u, v, e⟩ := x; exact ⟨t, u, v, k _ _ (.inl rfl) e⟩
  | frz ob u ih => obtain ⟨e, q⟩ := x; exact ⟨k _ _ (.inl rfl) e, ih q⟩
  | tbl ps =>
    have e : h.get? a = some { cls := .none, data := .fields ps } := x
    show h'.get? a = some { cls := .none, data := .fields ps }
    exact k a _ (.inl rfl) e
  | met f y =>
    have e : h.get? a = some (PySem.W.methodObj (.ref f) (.ref y)) := x
    show h'.get? a = some (PySem.W.methodObj (.ref f) (.ref y))
    exact k a _ (.inl rfl) e
  | ext φ => obtain ⟨p, ⟨o, e⟩, st⟩ := x; exact ⟨st _ _ p fun o q => k _ _ (.inl rfl) q, ⟨o, k _ _ (.inl rfl) e⟩, st⟩
theorem HOk.lt (x : HOk P w H h) (e : H a = some o) : a < h.objs.size := (x a o e).lt
theorem HOk.fresh (x : HOk P w H h) (e : h.objs.size ≤ a) : H a = none := by
  cases q : H a with
  | none => rfl
  | some u => exact absurd (Nat.lt_of_lt_of_le (x.lt q) e) (Nat.lt_irrefl _)
/-- every object of the heap is kept -/
theorem HOk.kept (x : HOk P w H h) (k : ∀ b u, h.get? b = some u → h'.get? b = some u) : HOk P w H h' := fun a o e =>
  (x a o e).stay (fun b u _ q => k b u q) (fun _ q => q) fun _ _ q => q
/-- a new object is laid and tracked -/
theorem HOk.laid (x : HOk P w H h) (k : ∀ b u, h.get? b = some u → h'.get? b = some u) (hp : h.objs.size ≤ a) (new : ObjOk P w (upd H a o) h' a o) : HOk P w (upd H a o) h' := fun b u e => by
  have hn := x.fresh hp
  by_cases hb : b = a
  · subst hb; rw [upd_same] at e; cases e; exact new
  · rw [upd_ne hb] at e
    exact (x b u e).stay (fun c v _ q => k c v q) (fun c q => by rw [upd_ne (ne_of_none q hn)]; exact q) fun c xs q => by rw [upd_ne (ne_of_none q hn)]; exact q
end

/-- what may be read as u: it is u, or a known u -/
def Rd (H : Hp) (a : Addr) (u : HO) : Prop := H a = some u ∨ ∃ o, H a = some (.frz o u)
theorem Rd.of {H : Hp} {a : Addr} {u : HO} (h : H a = some u) : Rd H a u := .inl h
theorem Rd.ok {P : Program} {w : World} {H : Hp} {h : Heap} {a : Addr} {u : HO} (r : Rd H a u) (x : HOk P w H h) : ObjOk P w H h a u := by
  rcases r with r | ⟨o, r⟩
  · exact x a u r
  · obtain ⟨_, q⟩ := x a _ r
    exact q
/-- what may be written -/
def Mut : Option HO → Prop
  | some (.lst _) => True
  | some (.dK _) => True
  | some (.dT _) => True
  | some (.set _ _) => True
  | some (.ins _ _ _) => True
  | some (.ext _) => True
  | _ => False
section
variable {P : Program} {w : World} {H : Hp} {h h' : Heap} {x e : Addr} {o' : HO}
/-- the object at e is changed: x itself, or the dict of the instance x -/
theorem HOk.write (ok : HOk P w H h) (mu : Mut (H x)) (he : e = x ∨ H e = some (.own x)) (k : ∀ b u, b ≠ e → h.get? b = some u → h'.get? b = some u) (heo : ∃ u, h'.get? e = some u)
    (new : ObjOk P w (upd H x o') h' x o') : HOk P w (upd H x o') h' := fun b u q => by
  have nown : ∀ c y, H c = some (.own y) → c ≠ x := fun c y r z => by subst z; rw [r] at mu; exact mu
  have ntup : ∀ c xs, H c = some (.tup xs) → c ≠ x := fun c xs r z => by subst z; rw [r] at mu; exact mu
  by_cases hb : b = x
  · subst hb; rw [upd_same] at q; cases q; exact new
  · rw [upd_ne hb] at q
    by_cases hbe : b = e
    · have q' : H b = some (.own x) := by
        rcases he with z | z
        · exact absurd (hbe.trans z) hb
        · rw [hbe]; exact z
      rw [q] at q'; cases q'
      obtain ⟨v, hv⟩ := heo
      exact ⟨v, by rw [hbe]; exact hv⟩
    · refine (ok b u q).stay (fun c v hc r => k c v ?_ r) (fun c r => by rw [upd_ne (nown c b r)]; exact r) fun c xs r => by rw [upd_ne (ntup c xs r)]; exact r
      rcases hc with rfl | hc
      · exact hbe
      · rintro rfl
        rcases he with z | z
        · exact nown c b hc z
        · rw [hc] at z; cases z; exact hb rfl
end

/-! ### kept unless tracked; of the frames at fs (the callers') the slots may change (an exception that passes writes there); of the records at ex (iterators) nothing is said -/
structure Un (fs ex : List Addr) (H H' : Hp) (h h' : Heap) : Prop where
  keep : ∀ b o, h.get? b = some o → H b = none → b ∉ fs → b ∉ ex → h'.get? b = some o
  slot : ∀ b o, h.get? b = some o → H b = none → b ∈ fs → b ∉ ex → ∃ sl, h'.get? b = some { o with slots := sl }
  free : ∀ b o, h.get? b = some o → H b = none → b ∉ ex → H' b = none
  there : ∀ b o, h.get? b = some o → b ∉ ex → ∃ o', h'.get? b = some o'
  tups : ∀ b xs, H b = some (.tup xs) → H' b = some (.tup xs)
  frzs : ∀ b o u, H b = some (.frz o u) → H' b = some (.frz o u)
  tbls : ∀ b ps, H b = some (.tbl ps) → ∃ more, H' b = some (.tbl (ps ++ more))
section
variable {fs fs' ex ex' : List Addr} {H H1 H2 : Hp} {h h1 h2 h' : Heap} {a x e : Addr} {o : HO}
theorem Un.any (u : Un fs ex H H1 h h1) {b : Addr} {ob : Obj} (q : h.get? b = some ob) (n : H b = none) (hx : b ∉ ex) : ∃ sl, h1.get? b = some { ob with slots := sl } := by
  by_cases hb : b ∈ fs
  · exact u.slot b ob q n hb hx
  · exact ⟨ob.slots, u.keep b ob q n hb hx⟩
theorem Un.trans (a : Un fs ex H H1 h h1) (b : Un fs ex H1 H2 h1 h2) : Un fs ex H H2 h h2 where
  keep := fun c ob q n hc hx => b.keep c ob (a.keep c ob q n hc hx) (a.free c ob q n hx) hc hx
  slot := fun c ob q n hc hx => by
    obtain ⟨sl, e1⟩ := a.slot c ob q n hc hx
    obtain ⟨sl', e2⟩ := b.slot c _ e1 (a.free c ob q n hx) hc hx
    exact ⟨sl', e2⟩
  free := fun c ob q n hx => by
    obtain ⟨o', e1⟩ := a.there c ob q hx
    exact b.free c o' e1 (a.free c ob q n hx) hx
  there := fun c ob q hx => by
    obtain ⟨o', e1⟩ := a.there c ob q hx
    exact b.there c o' e1 hx
  tups := fun c xs q => b.tups c xs (a.tups c xs q)
  frzs := fun c ob xs q => b.frzs c ob xs (a.frzs c ob xs q)
  tbls := fun c ps q => by
    obtain ⟨m1, e1⟩ := a.tbls c ps q
    obtain ⟨m2, e2⟩ := b.tbls c _ e1
    exact ⟨m1 ++ m2, by rw [e2, Array.append_assoc]⟩
theorem Un.kept (k : ∀ b u, h.get? b = some u → h'.get? b = some u) : Un fs ex H H h h' :=
  ⟨fun b ob q _ _ _ => k b ob q, fun b ob q _ _ _ => ⟨ob.slots, k b ob q⟩, fun _ _ _ n _ => n, fun b ob q _ => ⟨ob, k b ob q⟩, fun _ _ q => q, fun _ _ _ q => q, fun _ ps q => ⟨#[], by rw [q]; simp⟩⟩
theorem Un.refl : Un fs ex H H h h := Un.kept fun _ _ q => q
theorem Un.laid (k : ∀ b u, h.get? b = some u → h'.get? b = some u) (hp : h.objs.size ≤ a) (hn : H a = none) : Un fs ex H (upd H a o) h h' where
  keep := fun b u q _ _ _ => k b u q
  slot := fun b u q _ _ _ => ⟨u.slots, k b u q⟩
  free := fun b u q n _ => by rw [upd_ne (Nat.ne_of_lt (Nat.lt_of_lt_of_le (Heap.lt_size q) hp))]; exact n
  there := fun b u q _ => ⟨u, k b u q⟩
  tups := fun b xs q => by rw [upd_ne (ne_of_none q hn)]; exact q
  frzs := fun b u xs q => by rw [upd_ne (ne_of_none q hn)]; exact q
  tbls := fun b ps q => ⟨#[], by rw [upd_ne (ne_of_none q hn), q]; simp⟩
theorem Un.write (mu : Mut (H x)) (he : e = x ∨ H e = some (.own x)) (k : ∀ b u, b ≠ e → h.get? b = some u → h'.get? b = some u) (heo : ∃ u, h'.get? e = some u) : Un fs ex H (upd H x o) h h' := by
  have hx : ∀ b, H b = none → b ≠ x := fun b n z => by subst z; rw [n] at mu; exact mu
  have hb : ∀ b, H b = none → b ≠ e := fun b n z => by
    subst z
    rcases he with r | r
    · exact hx b n r
    · rw [n] at r; cases r
  have hm : ∀ b u, H b = some u → ¬ Mut (some u) → b ≠ x := fun b u q nm z => by subst z; rw [q] at mu; exact nm mu
  refine ⟨fun b u q n _ _ => k b u (hb b n) q, fun b u q n _ _ => ⟨u.slots, k b u (hb b n) q⟩, fun b u q n _ => by rw [upd_ne (hx b n)]; exact n, fun b u q _ => ?_,
    fun b xs q => by rw [upd_ne (hm b _ q fun z => z)]; exact q, fun b u xs q => by rw [upd_ne (hm b _ q fun z => z)]; exact q, fun b ps q => ⟨#[], by rw [upd_ne (hm b _ q fun z => z), q]; simp⟩⟩
  by_cases hbe : b = e
  · subst hbe; exact heo
  · exact ⟨u, k b u hbe q⟩
theorem Un.mono (u : Un fs ex H H1 h h1) (hs : ∀ b ∈ fs, b ∈ fs') (hx : ∀ b ∈ ex, b ∈ ex') : Un fs' ex' H H1 h h1 :=
  ⟨fun b ob q n hb he => u.keep b ob q n (fun z => hb (hs b z)) fun z => he (hx b z), fun _ _ q n _ he => u.any q n fun z => he (hx _ z), fun b ob q n he => u.free b ob q n fun z => he (hx b z), fun b ob q he => u.there b ob q fun z => he (hx b z), u.tups, u.frzs, u.tbls⟩
end

/-! ### the heap without what is tracked -/
def trk (h : Heap) (H : Hp) : List Addr := (List.range h.objs.size).filter fun a => (H a).isSome
def hidT (h : Heap) (H : Hp) : Heap := PySem.W.hideAll h (trk h H)
theorem hidT_size (h : Heap) (H : Hp) : (hidT h H).objs.size = h.objs.size := PySem.W.hideAll_size _ _
theorem hidT_get {h : Heap} {H : Hp} {b : Addr} {o : Obj} (e : h.get? b = some o) (n : H b = none) : (hidT h H).get? b = some o :=
  PySem.W.hideAll_get _ e fun hm => by
    have q : (H b).isSome = true := (List.mem_filter.mp hm).2
    rw [n] at q; simp at q
theorem of_hidT {h : Heap} {H : Hp} {b : Addr} {o : Obj} (e : (hidT h H).get? b = some o) : h.get? b = some o ∧ H b = none := by
  have e' : h.get? b = some o := PySem.W.of_hideAll (trk h H) e
  refine ⟨e', ?_⟩
  cases q : H b with
  | none => rfl
  | some x =>
    have hm : b ∈ trk h H := List.mem_filter.mpr ⟨List.mem_range.mpr (Heap.lt_size e'), by simp [q]⟩
    have z : (hidT h H).get? b = none := PySem.W.hideAll_none (trk h H) hm
    rw [z] at e; cases e

/-! ### OpenK's ledger, filled with every new object but one -/
def allNews (g h : Heap) (L : Addr) : List (Addr × Obj) := (List.range h.objs.size).filterMap fun a => if a = L ∨ (g.get? a).isSome = true then none else (h.get? a).map fun o => (a, o)
def rest (g h : Heap) (L d : Addr) : List (Addr × Obj) := (allNews g h L).filter fun p => decide (p.1 ≠ d)
end L2

namespace L2
open PySem PySem.Spec PyProof.Rows

/-- the module's facts, over the base: the heap at the law's entry without what is tracked there -/
structure Mod (K : PySem.W.Frag) (mg : Str → Option Value) (base : Heap) : Prop where
  kin : K.In base
  glob : base.Ns mainGlobals mg
  blt : ∃ mb, base.Ns builtinsNs mb ∧ ∀ x : Str, x ≠ "__name__" → mb x = bootBuiltins x
  nolimit : base.NoLimit

/-- the context: a def's body (or a comprehension's block) running. base: fixed through the whole law; s₀, H₀: the entry; outer: the frames whose slots others may change (a def's callers); stack: all frames that run;
   ex: iterators that were made ahead of the entry and are walked here (a comprehension's); fn: the names whose cells were made at the entry (a def: all; a comprehension's block: its own); calm: not within an except suite; pn: pins that every state bears; xe: what is wanted of an exception that leaves the code -/
structure Cx where
  prog : Program
  w : World
  K : PySem.W.Frag
  mg : Str → Option Value
  base : Heap
  A : Around
  N : List Str
  s_0 : Shared
  H_0 : Hp
  env : Env
  outer : List Env
  stack : List Env
  ex : List Addr
  fn : Str → Bool
  calm : Bool
  pn : List (Addr × Obj)
  xe : Value → Shared → Prop
/-- the callers' frames -/
def frs (l : List Env) : List Addr := l.filterMap (·.frame)
abbrev Cx.fs (X : Cx) : List Addr := frs X.outer

def Vis (sc : Scope) (x : Str) : Prop := sc.names.lookup x = some .local ∨ sc.names.lookup x = some .cell ∨ sc.names.lookup x = some .free
def Loc (sc : Scope) (x : Str) : Prop := sc.names.lookup x = some .local ∨ sc.names.lookup x = some .cell
def Look (env : Env) (h : Heap) (m : Str → Option Value) (x : Str) (u : Value) : Prop :=
  (env.kindOf x = some .local ∧ m x = some u) ∨ ((env.kindOf x = some .cell ∨ env.kindOf x = some .free) ∧ ∃ c, env.cells.lookup x = some c ∧ h.IsCell c (some u))

structure Cx.Ok (X : Cx) : Prop where
  mod : Mod X.K X.mg X.base
  kind : X.env.scope.kind = .function
  glob : X.env.globals = mainGlobals
  blt : X.env.builtins = builtinsNs
  above : X.s_0.heap.objs.size ≤ X.env.locals
  inj : ∀ x y c, X.env.cells.lookup x = some c → X.env.cells.lookup y = some c → x = y
  has : ∀ x, (X.env.kindOf x = some .cell ∨ X.env.kindOf x = some .free) → ∃ c, X.env.cells.lookup x = some c
  cab : ∀ x c, X.fn x = true → X.env.cells.lookup x = some c → X.s_0.heap.objs.size ≤ c
  hd : X.calm = true → X.A.handled = none
  frames : X.A.frames = some X.stack
  stk : X.stack = X.outer ∨ (X.stack = X.env :: X.outer ∧ X.env.frame = some X.env.locals)
  exf : ∀ b ∈ X.ex, b ≠ X.env.locals ∧ ∀ x c, X.env.cells.lookup x = some c → c ≠ b
  bs : ∀ b o, X.base.get? b = some o → X.s_0.heap.get? b = some o ∧ X.H_0 b = none
  bsz : X.base.objs.size ≤ X.s_0.heap.objs.size
  noex : ∀ b o, X.base.get? b = some o → b ∉ X.ex
  exfs : ∀ b ∈ X.ex, b ∉ X.fs
  funs : X.s_0.heap.FunFrames X.base X.outer
  frf : ∀ b ∈ X.fs, X.H_0 b = none

structure Inv (X : Cx) (pins : List (Addr × Obj)) (σ : List (Option V)) (H : Hp) (s : Shared) : Prop where
  ok : X.Ok
  os : s.os = X.s_0.os
  bare : AllBare s.gens
  base : Un X.fs X.ex X.H_0 H X.s_0.heap s.heap
  loc : ∃ m, s.heap.Ns X.env.locals m ∧ ∀ (i : Nat) (x : Str) (v : V), X.N[i]? = some x → σ[i]? = some (some v) → Vis X.env.scope x → ∃ u, RelV v u ∧ Look X.env s.heap m x u
  cell : ∀ x c, X.env.cells.lookup x = some c → ∃ v, s.heap.IsCell c v
  free : H X.env.locals = none
  freeC : ∀ x c, X.env.cells.lookup x = some c → H c = none
  pin : ∀ p ∈ X.pn ++ pins, s.heap.get? p.1 = some p.2 ∧ H p.1 = none ∧ p.1 ≠ X.env.locals ∧ p.1 ∉ X.fs ∧ ∀ v, p.2.data ≠ .cell v
  hok : HOk X.prog X.w H s.heap
  len : σ.length = X.N.length

section
variable {X : Cx} {pins : List (Addr × Obj)} {σ : List (Option V)} {H H' : Hp} {s : Shared} {h' : Heap}

theorem Cx.Ok.nofr (ok : X.Ok) {b : Addr} {o : Obj} (e : X.base.get? b = some o) : b ∉ X.fs := fun hb => by
  have := (ok.funs.mem hb).1
  rw [e] at this; cases this
theorem Inv.bs (I : Inv X pins σ H s) : ∀ b o, X.base.get? b = some o → s.heap.get? b = some o ∧ H b = none := fun b o e =>
  ⟨I.base.keep b o (I.ok.bs b o e).1 (I.ok.bs b o e).2 (I.ok.nofr e) (I.ok.noex b o e), I.base.free b o (I.ok.bs b o e).1 (I.ok.bs b o e).2 (I.ok.noex b o e)⟩
theorem Inv.bk (I : Inv X pins σ H s) : ∀ b o, X.base.get? b = some o → s.heap.get? b = some o := fun b o e => (I.bs b o e).1
theorem Inv.mod (I : Inv X pins σ H s) : Mod X.K X.mg X.base := I.ok.mod
theorem Inv.kIn (I : Inv X pins σ H s) : X.K.In s.heap := I.ok.mod.kin.keeps I.bk
theorem Inv.nolimit (I : Inv X pins σ H s) : s.heap.NoLimit := I.ok.mod.nolimit.keeps I.bk
theorem Inv.lt (I : Inv X pins σ H s) : X.env.locals < s.heap.objs.size := let ⟨_, hn, _⟩ := I.loc; hn.lt
theorem Inv.sz (I : Inv X pins σ H s) : X.s_0.heap.objs.size ≤ s.heap.objs.size := Nat.le_trans I.ok.above (Nat.le_of_lt I.lt)
theorem Inv.nofs (I : Inv X pins σ H s) {a : Addr} (h : s.heap.objs.size ≤ a) : a ∉ X.fs := fun hb => by
  obtain ⟨_, o, ho, _⟩ := I.ok.funs.mem hb
  exact absurd (Nat.lt_of_lt_of_le (Heap.lt_size ho) (Nat.le_trans I.sz h)) (Nat.lt_irrefl _)
theorem Inv.cne (I : Inv X pins σ H s) : ∀ x c, X.env.cells.lookup x = some c → c ≠ X.env.locals := fun x c e z => by
  obtain ⟨v, o, ho, hd⟩ := I.cell x c e
  obtain ⟨m, ⟨o', es, ep, ho', hd', _⟩, _⟩ := I.loc
  rw [z, ho'] at ho; cases ho; rw [hd'] at hd; cases hd
theorem Inv.funs (I : Inv X pins σ H s) : s.heap.FunFrames X.base X.outer := by
  have all : ∀ (l : List Env), (∀ b ∈ frs l, b ∈ X.fs) → X.s_0.heap.FunFrames X.base l → s.heap.FunFrames X.base l := by
    intro l
    induction l with
    | nil => intro _ _; trivial
    | cons env r ih =>
      intro hs hl
      obtain ⟨hk, ⟨L, o, hf, hn, ho, hd⟩, hr⟩ := hl
      have hL : L ∈ X.fs := hs L (by unfold frs; rw [List.filterMap_cons, hf]; exact List.mem_cons_self)
      obtain ⟨sl, e⟩ := I.base.slot L o ho (I.ok.frf L hL) hL fun z => I.ok.exfs L z hL
      exact ⟨hk, ⟨L, _, hf, hn, e, hd⟩, ih (fun b hb => hs b (by unfold frs; rw [List.filterMap_cons, hf]; exact List.mem_cons_of_mem _ hb)) hr⟩
  exact all X.outer (fun _ hb => hb) I.ok.funs

/-- the frames that run, for a call -/
theorem Inv.stack (I : Inv X pins σ H s) : s.heap.FunFrames X.base X.stack := by
  rcases I.ok.stk with e | ⟨e, hf⟩
  · rw [e]; exact I.funs
  · rw [e]
    obtain ⟨m, hn, _⟩ := I.loc
    refine .cons (by rw [I.ok.kind]; decide) hf hn ?_ I.funs
    exact Heap.get?_none_of_le (Nat.le_trans I.ok.bsz I.ok.above)
theorem Inv.stkSub (I : Inv X pins σ H s) : ∀ b ∈ frs X.stack, b ∈ X.env.locals :: X.fs := fun b hb => by
  rcases I.ok.stk with e | ⟨e, hf⟩
  · rw [e] at hb; exact List.mem_cons_of_mem _ hb
  · rw [e] at hb
    unfold frs at hb
    rw [List.filterMap_cons, hf] at hb
    exact hb
theorem Inv.stkFree (I : Inv X pins σ H s) : ∀ b ∈ frs X.stack, H b = none := fun b hb => by
  rcases List.mem_cons.mp (I.stkSub b hb) with e | hb
  · rw [e]; exact I.free
  · obtain ⟨_, o, ho, _⟩ := I.ok.funs.mem hb
    exact I.base.free b o ho (I.ok.frf b hb) fun z => I.ok.exfs b z hb

/-- THE STEP: the untracked objects but the frame and the records at ch are kept (the callers' frames up to slots), the frame's map is kept, the new abstract heap is held -/
theorem Inv.step {g' : Array GenState} {t' : Nat} {d' : Drawn} {ch : List Addr} (I : Inv X pins σ H s)
    (hch : ∀ b ∈ ch, (b ∈ X.ex ∨ X.s_0.heap.objs.size ≤ b) ∧ b ≠ X.env.locals ∧ (∀ x c, X.env.cells.lookup x = some c → c ≠ b) ∧ ∀ p ∈ X.pn ++ pins, p.1 ≠ b)
    (keep : ∀ b o, b ≠ X.env.locals → b ∉ X.fs → b ∉ ch → s.heap.get? b = some o → H b = none → h'.get? b = some o)
    (slot : ∀ b o, b ≠ X.env.locals → b ∈ X.fs → b ∉ ch → s.heap.get? b = some o → H b = none → ∃ sl, h'.get? b = some { o with slots := sl }) (free : ∀ b o, b ∉ ch → s.heap.get? b = some o → H b = none → H' b = none)
    (there : ∀ b o, b ∉ ch → s.heap.get? b = some o → ∃ o', h'.get? b = some o')
    (tups : ∀ b xs, H b = some (.tup xs) → H' b = some (.tup xs)) (frzs : ∀ b o u, H b = some (.frz o u) → H' b = some (.frz o u)) (tbls : ∀ b ps, H b = some (.tbl ps) → ∃ more, H' b = some (.tbl (ps ++ more)))
    (ns : ∀ m, s.heap.Ns X.env.locals m → h'.Ns X.env.locals m) (hok : HOk X.prog X.w H' h') (hg : AllBare g') :
    Inv X pins σ H' { s with heap := h', gens := g', drawn := d', toks := t' } := by
  have neL : ∀ b o, X.s_0.heap.get? b = some o → b ≠ X.env.locals := fun b o e => Nat.ne_of_lt (Nat.lt_of_lt_of_le (Heap.lt_size e) I.ok.above)
  have neC : ∀ b o, X.s_0.heap.get? b = some o → b ∉ X.ex → b ∉ ch := fun b o e hx hb => by
    rcases (hch b hb).1 with z | z
    · exact hx z
    · exact absurd (Nat.lt_of_lt_of_le (Heap.lt_size e) z) (Nat.lt_irrefl _)
  have cellK : ∀ x c, X.env.cells.lookup x = some c → ∀ v, s.heap.IsCell c v → h'.IsCell c v := fun x c e v ⟨o, ho, hd⟩ => by
    have nch : c ∉ ch := fun z => (hch c z).2.2.1 x c e rfl
    by_cases hc : c ∈ X.fs
    · obtain ⟨sl, q⟩ := slot c o (I.cne x c e) hc nch ho (I.freeC x c e)
      exact ⟨_, q, hd⟩
    · exact ⟨o, keep c o (I.cne x c e) hc nch ho (I.freeC x c e), hd⟩
  refine ⟨I.ok, I.os, hg, ⟨fun b o e n hb hx => ?_, fun b o e n hb hx => ?_, fun b o e n hx => ?_, fun b o e hx => ?_, fun b xs e => tups b xs (I.base.tups b xs e), fun b o xs e => frzs b o xs (I.base.frzs b o xs e), fun b ps e => ?_⟩, ?_, fun x c e => ?_, ?_, fun x c e => ?_, fun p hp => ?_, hok, I.len⟩
  · exact keep b o (neL b o e) hb (neC b o e hx) (I.base.keep b o e n hb hx) (I.base.free b o e n hx)
  · obtain ⟨sl, e1⟩ := I.base.slot b o e n hb hx
    obtain ⟨sl', e2⟩ := slot b _ (neL b o e) hb (neC b o e hx) e1 (I.base.free b o e n hx)
    exact ⟨sl', e2⟩
  · obtain ⟨o', e1⟩ := I.base.there b o e hx
    exact free b o' (neC b o e hx) e1 (I.base.free b o e n hx)
  · obtain ⟨o', e1⟩ := I.base.there b o e hx
    exact there b o' (neC b o e hx) e1
  · obtain ⟨m1, e1⟩ := I.base.tbls b ps e
    obtain ⟨m2, e2⟩ := tbls b _ e1
    exact ⟨m1 ++ m2, by rw [e2, Array.append_assoc]⟩
  · obtain ⟨m, hn, hl⟩ := I.loc
    refine ⟨m, ns m hn, fun i x v e1 e2 e3 => ?_⟩
    obtain ⟨u, r, l⟩ := hl i x v e1 e2 e3
    refine ⟨u, r, ?_⟩
    rcases l with l | ⟨k, c, e, z⟩
    · exact .inl l
    · exact .inr ⟨k, c, e, cellK x c e _ z⟩
  · obtain ⟨v, z⟩ := I.cell x c e
    exact ⟨v, cellK x c e v z⟩
  · obtain ⟨m, ⟨o, _, _, ho, _⟩, _⟩ := I.loc
    exact free _ o (fun z => (hch _ z).2.1 rfl) ho I.free
  · obtain ⟨v, o, ho, hd⟩ := I.cell x c e
    exact free c o (fun z => (hch c z).2.2.1 x c e rfl) ho (I.freeC x c e)
  · obtain ⟨e, n, ne, nf, d⟩ := I.pin p hp
    have nch : p.1 ∉ ch := fun z => (hch p.1 z).2.2.2 p hp rfl
    exact ⟨keep p.1 p.2 ne nf nch e n, free p.1 p.2 nch e n, ne, nf, d⟩
/-- .. where the frame's own object is kept too -/
theorem Inv.un {t' : Nat} (I : Inv X pins σ H s) (u : Un X.fs [] H H' s.heap h') (hok : HOk X.prog X.w H' h') : Inv X pins σ H' { s with heap := h', toks := t' } := by
  obtain ⟨m, ⟨o, es, ep, ho, r⟩, _⟩ := id I.loc
  obtain ⟨sl, hL⟩ := u.any ho I.free (by simp)
  exact I.step (g' := s.gens) (d' := s.drawn) (ch := []) (fun _ z => nomatch z) (fun b o _ hb _ e n => u.keep b o e n hb (by simp)) (fun b o _ hb _ e n => u.slot b o e n hb (by simp)) (fun b o _ e n => u.free b o e n (by simp)) (fun b o _ e => u.there b o e (by simp)) u.tups u.frzs u.tbls (fun m' hm => by
    obtain ⟨o', es', ep', ho', r'⟩ := hm
    rw [ho] at ho'; cases ho'
    exact ⟨_, es', ep', hL, r'⟩) hok I.bare
/-- behind a call (or a comprehension's block): the slots of this frame may have changed too, the records at ch may have turned -/
theorem Inv.call {g' : Array GenState} {t' : Nat} {d' : Drawn} {ch : List Addr} (I : Inv X pins σ H s) (u : Un (frs X.stack) ch H H' s.heap h') (hok : HOk X.prog X.w H' h') (hg : AllBare g')
    (hch : ∀ b ∈ ch, (b ∈ X.ex ∨ X.s_0.heap.objs.size ≤ b) ∧ b ≠ X.env.locals ∧ (∀ x c, X.env.cells.lookup x = some c → c ≠ b) ∧ ∀ p ∈ X.pn ++ pins, p.1 ≠ b) :
    Inv X pins σ H' { s with heap := h', gens := g', drawn := d', toks := t' } := by
  obtain ⟨m, ⟨o, es, ep, ho, r⟩, _⟩ := id I.loc
  obtain ⟨sl, hL⟩ := u.any ho I.free fun z => (hch _ z).2.1 rfl
  exact I.step (ch := ch) hch (fun b o hL hb hc e n => u.keep b o e n (fun z => (List.mem_cons.mp (I.stkSub b z)).elim hL hb) hc) (fun b o _ _ hc e n => u.any e n hc) (fun b o hc e n => u.free b o e n hc) (fun b o hc e => u.there b o e hc) u.tups u.frzs u.tbls (fun m' hm => by
    obtain ⟨o', es', ep', ho', r'⟩ := hm
    rw [ho] at ho'; cases ho'
    exact ⟨_, es', ep', hL, r'⟩) hok hg
/-- an untracked record of ours (an iterator) has turned -/
theorem Inv.turned {t' : Nat} {it : Addr} (I : Inv X pins σ H s) (k : ∀ b o, b ≠ it → s.heap.get? b = some o → h'.get? b = some o) (hn : H it = none) (hL : it ≠ X.env.locals)
    (h1 : it ∈ X.ex ∨ X.s_0.heap.objs.size ≤ it) (h2 : ∀ x c, X.env.cells.lookup x = some c → c ≠ it) (h3 : ∀ p ∈ X.pn ++ pins, p.1 ≠ it) : Inv X pins σ H { s with heap := h', toks := t' } := by
  have nit : ∀ b u, H b = some u → b ≠ it := fun b u e z => by rw [z, hn] at e; cases e
  refine I.step (g' := s.gens) (d' := s.drawn) (ch := [it]) (fun b hb => ?_) (fun b o _ _ hc e _ => k b o (fun z => hc (by simp [z])) e) (fun b o _ _ hc e _ => ⟨o.slots, k b o (fun z => hc (by simp [z])) e⟩) (fun _ _ _ _ n => n)
    (fun b o hc e => ⟨o, k b o (fun z => hc (by simp [z])) e⟩) (fun _ _ e => e) (fun _ _ _ e => e) (fun b ps e => ⟨#[], by rw [e]; simp⟩) (fun m hm => ?_) (fun b u e => ?_) I.bare
  · have e : b = it := by simpa using hb
    subst e
    exact ⟨h1, hL, h2, h3⟩
  · obtain ⟨o, es, ep, ho, r⟩ := hm
    exact ⟨o, es, ep, k _ o (Ne.symm hL) ho, r⟩
  · refine (I.hok b u e).stay (fun c v hc q => k c v ?_ q) (fun _ q => q) fun _ _ q => q
    rcases hc with z | z
    · rw [z]; exact nit b u e
    · exact nit c _ z
theorem Inv.tok (I : Inv X pins σ H s) (t : Nat) : Inv X pins σ H { s with toks := t } := I.un (h' := s.heap) (t' := t) Un.refl I.hok
/-- all objects kept -/
theorem Inv.kept {t' : Nat} (I : Inv X pins σ H s) (k : ∀ b u, s.heap.get? b = some u → h'.get? b = some u) : Inv X pins σ H { s with heap := h', toks := t' } := I.un (Un.kept k) (I.hok.kept k)
/-- a new object laid and tracked -/
theorem Inv.laid {a : Addr} {o : HO} {t' : Nat} (I : Inv X pins σ H s) (k : ∀ b u, s.heap.get? b = some u → h'.get? b = some u) (hp : s.heap.objs.size ≤ a) (new : ObjOk X.prog X.w (upd H a o) h' a o) :
    Inv X pins σ (upd H a o) { s with heap := h', toks := t' } := I.un (Un.laid k hp (I.hok.fresh hp)) (I.hok.laid k hp new)
/-- an object written -/
theorem Inv.write {x e : Addr} {o : HO} {t' : Nat} (I : Inv X pins σ H s) (mu : Mut (H x)) (he : e = x ∨ H e = some (.own x)) (k : ∀ b u, b ≠ e → s.heap.get? b = some u → h'.get? b = some u) (heo : ∃ u, h'.get? e = some u)
    (new : ObjOk X.prog X.w (upd H x o) h' x o) : Inv X pins σ (upd H x o) { s with heap := h', toks := t' } := I.un (Un.write mu he k heo) (I.hok.write mu he k heo new)
/-- forgetting slots, pins -/
theorem Inv.weak {σ' : List (Option V)} (I : Inv X pins σ H s) (hl : σ'.length = σ.length) (w : ∀ (i : Nat) v, σ'[i]? = some (some v) → σ[i]? = some (some v)) : Inv X pins σ' H s :=
  ⟨I.ok, I.os, I.bare, I.base, let ⟨m, hn, hl'⟩ := I.loc; ⟨m, hn, fun i x v e1 e2 e3 => hl' i x v e1 (w i v e2) e3⟩, I.cell, I.free, I.freeC, I.pin, I.hok, hl.trans I.len⟩
theorem Inv.pins_of {pins' : List (Addr × Obj)} (I : Inv X pins σ H s) (h : ∀ p ∈ pins', s.heap.get? p.1 = some p.2 ∧ H p.1 = none ∧ p.1 ≠ X.env.locals ∧ p.1 ∉ X.fs ∧ ∀ v, p.2.data ≠ .cell v) : Inv X pins' σ H s :=
  ⟨I.ok, I.os, I.bare, I.base, I.loc, I.cell, I.free, I.freeC, fun p hp => (List.mem_append.mp hp).elim (fun z => I.pin p (List.mem_append_left _ z)) (h p), I.hok, I.len⟩

theorem nodup_ix {N : List Str} (hN : N.Nodup) {i j : Nat} {x : Str} (a : N[i]? = some x) (b : N[j]? = some x) : i = j := by
  obtain ⟨h1, e1⟩ := List.getElem?_eq_some_iff.mp a
  obtain ⟨h2, e2⟩ := List.getElem?_eq_some_iff.mp b
  exact (List.getElem_inj hN).mp (e1.trans e2.symm)

/-- a name is stored; what changed -/
theorem store_ok2 {M : Model} {A : Around} {E : Value → Shared → Prop} {i : Nat} {x : Str} {v : V} {u : Value} {Q : Unit → Shared → Prop} (I : Inv X pins σ H s) (hN : X.N.Nodup) (hi : X.N[i]? = some x) (hx : Loc X.env.scope x) (r : RelV v u)
    (h : ∀ s', Inv X pins (σ.set i (some v)) H s' → (∃ a, Heap.SameBut a s.heap s'.heap ∧ (a = X.env.locals ∨ X.env.cells.lookup x = some a)) → Q () s') (hf : X.fn x = true ∨ X.env.scope.names.lookup x = some .local := by first | exact .inl rfl | exact .inr rfl | assumption) : wpAny M A (storeName X.env x u) Q E s := by
  obtain ⟨m, hn, hl⟩ := id I.loc
  have hcls : (X.env.scope.kind == .class || (X.env.scope.kind == .module && X.env.locals != X.env.globals)) = false := by rw [I.ok.kind]; rfl
  have hiσ : i < σ.length := by rw [I.len]; exact (List.getElem?_eq_some_iff.mp hi).1
  have cne := I.cne
  have tracked : ∀ {a : Addr} {h' : Heap}, (∃ o, s.heap.get? a = some o ∧ H a = none) → Heap.SameBut a s.heap h' → HOk X.prog X.w H h' := fun {a h'} ha hs b ob e => by
    obtain ⟨_, _, hfree⟩ := ha
    refine (I.hok b ob e).stay (fun c w' hc q => (hs.2 c ?_).trans q) (fun _ q => q) fun _ _ q => q
    rintro rfl
    rcases hc with rfl | hc
    · rw [hfree] at e; cases e
    · rw [hfree] at hc; cases hc
  rcases hx with hk | hk
  · refine wpAny_storeName_local hk hn (fun h' hn' hs => ?_) hcls
    obtain ⟨oL, _, _, hoL, _⟩ := id hn
    refine h _ ⟨I.ok, I.os, I.bare, ⟨fun b o e n hb hx => ?_, fun b o e n hb hx => ?_, I.base.free, fun b o e hx => ?_, I.base.tups, I.base.frzs, I.base.tbls⟩, ⟨_, hn', fun j y v' e1 e2 e3 => ?_⟩, fun y c e => ?_, I.free, I.freeC, fun p hp => ?_, tracked ⟨oL, hoL, I.free⟩ hs, by simpa using I.len⟩ ⟨_, hs, .inl rfl⟩
    · exact (hs.2 b (Nat.ne_of_lt (Nat.lt_of_lt_of_le (Heap.lt_size e) I.ok.above))).trans (I.base.keep b o e n hb hx)
    · obtain ⟨sl, e1⟩ := I.base.slot b o e n hb hx
      exact ⟨sl, (hs.2 b (Nat.ne_of_lt (Nat.lt_of_lt_of_le (Heap.lt_size e) I.ok.above))).trans e1⟩
    · obtain ⟨o', e1⟩ := I.base.there b o e hx
      exact ⟨o', (hs.2 b (Nat.ne_of_lt (Nat.lt_of_lt_of_le (Heap.lt_size e) I.ok.above))).trans e1⟩
    · by_cases hj : j = i
      · subst hj
        rw [hi] at e1; cases e1
        rw [List.getElem?_set_self hiσ] at e2
        cases e2
        exact ⟨u, r, .inl ⟨hk, by simp⟩⟩
      · rw [List.getElem?_set_ne (Ne.symm hj)] at e2
        obtain ⟨u', r', q⟩ := hl j y v' e1 e2 e3
        refine ⟨u', r', ?_⟩
        rcases q with ⟨k, e⟩ | ⟨k, c, e, z⟩
        · refine .inl ⟨k, ?_⟩
          have : y ≠ x := fun e => hj (nodup_ix hN e1 (e ▸ hi))
          simp [this, e]
        · exact .inr ⟨k, c, e, z.sameBut hs (cne y c e)⟩
    · obtain ⟨w', z⟩ := I.cell y c e
      exact ⟨w', z.sameBut hs (cne y c e)⟩
    · obtain ⟨e, n, ne, nf, d⟩ := I.pin p hp
      exact ⟨(hs.2 p.1 ne).trans e, n, ne, nf, d⟩
  · have hfn : X.fn x = true := by
      rcases hf with z | z
      · exact z
      · rw [z] at hk; cases hk
    obtain ⟨c, hc⟩ := I.ok.has x (.inl hk)
    obtain ⟨w', z⟩ := I.cell x c hc
    refine wpAny_storeName_cell I.ok.kind hk hc z (fun h' hc' hs => ?_)
    obtain ⟨oc, hoc, hocd⟩ := id z
    refine h { s with heap := h' } ⟨I.ok, I.os, I.bare, ⟨fun b o e n hb hx => ?_, fun b o e n hb hx => ?_, I.base.free, fun b o e hx => ?_, I.base.tups, I.base.frzs, I.base.tbls⟩, ⟨m, hn.sameBut hs (Ne.symm (cne x c hc)), fun j y v' e1 e2 e3 => ?_⟩, fun y c' e => ?_, I.free, I.freeC, fun p hp => ?_, tracked ⟨oc, hoc, I.freeC x c hc⟩ hs, by simpa using I.len⟩ ⟨c, hs, .inr hc⟩
    · exact (hs.2 b (Nat.ne_of_lt (Nat.lt_of_lt_of_le (Heap.lt_size e) (I.ok.cab x c hfn hc)))).trans (I.base.keep b o e n hb hx)
    · obtain ⟨sl, e1⟩ := I.base.slot b o e n hb hx
      exact ⟨sl, (hs.2 b (Nat.ne_of_lt (Nat.lt_of_lt_of_le (Heap.lt_size e) (I.ok.cab x c hfn hc)))).trans e1⟩
    · obtain ⟨o', e1⟩ := I.base.there b o e hx
      exact ⟨o', (hs.2 b (Nat.ne_of_lt (Nat.lt_of_lt_of_le (Heap.lt_size e) (I.ok.cab x c hfn hc)))).trans e1⟩
    · by_cases hj : j = i
      · subst hj
        rw [hi] at e1; cases e1
        rw [List.getElem?_set_self hiσ] at e2
        cases e2
        exact ⟨u, r, .inr ⟨.inl hk, c, hc, hc'⟩⟩
      · rw [List.getElem?_set_ne (Ne.symm hj)] at e2
        obtain ⟨u', r', q⟩ := hl j y v' e1 e2 e3
        refine ⟨u', r', ?_⟩
        rcases q with q | ⟨k, c', e, z'⟩
        · exact .inl q
        · refine .inr ⟨k, c', e, z'.sameBut hs ?_⟩
          rintro rfl
          exact hj (nodup_ix hN e1 (I.ok.inj _ _ _ e hc ▸ hi))
    · by_cases hcc : c' = c
      · subst hcc; exact ⟨_, hc'⟩
      · obtain ⟨w2, z2⟩ := I.cell y c' e
        exact ⟨w2, z2.sameBut hs hcc⟩
    · obtain ⟨e, n, ne, nf, d⟩ := I.pin p hp
      refine ⟨(hs.2 p.1 ?_).trans e, n, ne, nf, d⟩
      intro q
      rw [q, hoc] at e
      have q' : oc = p.2 := Option.some.inj e
      exact d w' (by rw [← q']; exact hocd)
theorem store_ok {M : Model} {A : Around} {E : Value → Shared → Prop} {i : Nat} {x : Str} {v : V} {u : Value} {Q : Unit → Shared → Prop} (I : Inv X pins σ H s) (hN : X.N.Nodup) (hi : X.N[i]? = some x) (hx : Loc X.env.scope x) (r : RelV v u)
    (h : ∀ s', Inv X pins (σ.set i (some v)) H s' → Q () s') (hf : X.fn x = true ∨ X.env.scope.names.lookup x = some .local := by first | exact .inl rfl | exact .inr rfl | assumption) : wpAny M A (storeName X.env x u) Q E s :=
  store_ok2 I hN hi hx r (fun s' I' _ => h s' I') hf
/-- behind a call or a block, the state as it is -/
theorem Inv.call' {s' : Shared} {ch : List Addr} (I : Inv X pins σ H s) (ho : s'.os = s.os) (u : Un (frs X.stack) ch H H' s.heap s'.heap) (hok : HOk X.prog X.w H' s'.heap) (hg : AllBare s'.gens)
    (hch : ∀ b ∈ ch, (b ∈ X.ex ∨ X.s_0.heap.objs.size ≤ b) ∧ b ≠ X.env.locals ∧ (∀ x c, X.env.cells.lookup x = some c → c ≠ b) ∧ ∀ p ∈ X.pn ++ pins, p.1 ≠ b) : Inv X pins σ H' s' := by
  obtain ⟨h', g', d', t', o'⟩ := s'
  have e : o' = s.os := ho
  subst e
  exact I.call (g' := g') (t' := t') (d' := d') u hok hg hch
end

/-! ### the judgements -/
/-- an exception: its class, its own dict's address (where it has one), the abstract heap behind it -/
abbrev XK := Value → Option Addr → Hp → Prop
abbrev St := List (Option V)
abbrev VK := V → Hp → Prop
/-- an expression's reading; a test's; an argument list's -/
abbrev TE := St → Hp → VK → Prop
abbrev TT := St → Hp → (Bool → Hp → Prop) → Prop
abbrev TA := St → Hp → (List V → Hp → Prop) → Prop
/-- what is wanted behind a statement -/
structure Ends where
  nx : St → Hp → Prop
  rt : VK
  bk : St → Hp → Prop := fun _ _ => False
  ct : St → Hp → Prop := fun _ _ => False
abbrev TS := Ends → St → Hp → Prop

def EP (X : Cx) (pins : List (Addr × Obj)) (σ : St) (Q : VK) (u : Value) (s' : Shared) : Prop := ∃ v H', Inv X pins σ H' s' ∧ RelV v u ∧ Q v H'
def TP (X : Cx) (pins : List (Addr × Obj)) (σ : St) (Q : Bool → Hp → Prop) (b : Bool) (s' : Shared) : Prop := ∃ H', Inv X pins σ H' s' ∧ Q b H'
def AP (X : Cx) (pins : List (Addr × Obj)) (σ : St) (Q : List V → Hp → Prop) (us : List Value) (s' : Shared) : Prop := ∃ vs H', Inv X pins σ H' s' ∧ Vals vs us ∧ Q vs H'
def SP (X : Cx) (pins : List (Addr × Obj)) (D : Ends) (f : Flow) (s' : Shared) : Prop :=
  match f with
  | .next => ∃ σ' H', Inv X pins σ' H' s' ∧ D.nx σ' H'
  | .brk => ∃ σ' H', Inv X pins σ' H' s' ∧ D.bk σ' H'
  | .cont => ∃ σ' H', Inv X pins σ' H' s' ∧ D.ct σ' H'
  | .ret u => ∃ v σ' H', Inv X pins σ' H' s' ∧ RelV v u ∧ D.rt v H'

def PE (X : Cx) (e : Expr) (t : TE) : Prop :=
  ∀ (pins : List (Addr × Obj)) (s : Shared) (σ : St) (H : Hp) (Q : VK), Inv X pins σ H s → t σ H Q → wpAny (model X.prog X.w) X.A (eval e X.env) (EP X pins σ Q) X.xe s
def PT (X : Cx) (e : Expr) (t : TT) : Prop :=
  ∀ (pins : List (Addr × Obj)) (s : Shared) (σ : St) (H : Hp) (Q : Bool → Hp → Prop), Inv X pins σ H s → t σ H Q → wpAny (model X.prog X.w) X.A (isTrue e X.env (eval e X.env)) (TP X pins σ Q) X.xe s
/-- a test whatever its 'whole' is (and, or) -/
def PW (X : Cx) (e : Expr) (t : TT) : Prop :=
  ∀ (whole : Sem Value) (pins : List (Addr × Obj)) (s : Shared) (σ : St) (H : Hp) (Q : Bool → Hp → Prop), Inv X pins σ H s → t σ H Q → wpAny (model X.prog X.w) X.A (isTrue e X.env whole) (TP X pins σ Q) X.xe s
theorem PW.pt {X : Cx} {e : Expr} {t : TT} (h : PW X e t) : PT X e t := h _
/-- an argument list (no star), from the left -/
def PA (X : Cx) (es : List Expr) (t : TA) : Prop :=
  ∀ (pos : Pos) (pins : List (Addr × Obj)) (s : Shared) (σ : St) (H : Hp) (Q : List V → Hp → Prop), Inv X pins σ H s → t σ H Q → wpAny (model X.prog X.w) X.A (spliced (backTo pos (starEach es X.env))) (AP X pins σ Q) X.xe s
def PS (X : Cx) (st : Stmt) (t : TS) : Prop :=
  ∀ (pins : List (Addr × Obj)) (s : Shared) (σ : St) (H : Hp) (D : Ends), Inv X pins σ H s → t D σ H → wpAny (model X.prog X.w) X.A (exec st X.env) (SP X pins D) X.xe s
def PSs (X : Cx) (st : List Stmt) (t : TS) : Prop :=
  ∀ (pins : List (Addr × Obj)) (s : Shared) (σ : St) (H : Hp) (D : Ends), Inv X pins σ H s → t D σ H → wpAny (model X.prog X.w) X.A (execs st X.env) (SP X pins D) X.xe s
/-- weaken the end -/
theorem thn {α : Type} {t : Sem α} {Q Q' : α → Shared → Prop} {M : Model} {A : Around} {E : Value → Shared → Prop} {s : Shared} (h : wpAny M A t Q E s) (hQ : ∀ a s, Q a s → Q' a s) : wpAny M A t Q' E s := wpAny_mono h hQ fun _ _ x => x
end L2

namespace L2
open PySem PySem.Spec PyProof.Rows
section
variable {X : Cx}

/-- two expressions in a row -/
theorem bin {a b : Expr} {ta tb : TE} (ha : PE X a ta) (hb : PE X b tb) {pins : List (Addr × Obj)} {s : Shared} {σ : St} {H : Hp} {R : V → V → Hp → Prop} (I : Inv X pins σ H s) (h : ta σ H fun x H1 => tb σ H1 fun y H2 => R x y H2)
    {α : Type} {Q : α → Shared → Prop} {f : Value → Value → Sem α}
    (hf : ∀ v u s2 x y H2, Inv X pins σ H2 s2 → RelV x v → RelV y u → R x y H2 → wpAny (model X.prog X.w) X.A (f v u) Q X.xe s2) :
    wpAny (model X.prog X.w) X.A (eval a X.env) (fun v s₁ => wpAny (model X.prog X.w) X.A (eval b X.env) (fun u s₂ => wpAny (model X.prog X.w) X.A (f v u) Q X.xe s₂) X.xe s₁) X.xe s := by
  refine thn (ha pins s σ H _ I h) fun v s1 ⟨x, H1, I1, r1, q1⟩ => ?_
  refine thn (hb pins s1 σ H1 _ I1 q1) fun u s2 ⟨y, H2, I2, r2, q2⟩ => ?_
  exact hf v u s2 x y H2 I2 r1 r2 q2

/-! ### names and constants -/
def tVar (i : Nat) : TE := fun σ H Q => ∃ v, σ[i]? = some (some v) ∧ Q v H
def tC (v : V) : TE := fun _ H Q => Q v H
theorem pe_var {i : Nat} {x : Str} {pos : Pos} (hN : X.N[i]? = some x) (hv : Vis X.env.scope x) (hd : (x == ("__debug__" : Str)) = false := by decide) (hcd : (x == ("__classdict__" : Str)) = false := by decide) : PE X (.Name x pos) (tVar i) := by
  intro pins s σ H Q I h
  obtain ⟨v, e, h⟩ := h
  obtain ⟨m, hn, hl⟩ := I.loc
  obtain ⟨u, r, l⟩ := hl i x v hN e hv
  have fin : EP X pins σ Q u s := ⟨v, H, I, r, h⟩
  rcases l with ⟨hk, hm⟩ | ⟨hk, c, hc, hcell⟩
  · exact wpAny_Name (wpAny_loadName_local I.ok.kind hk hn hm fin) hd
  · rcases hk with hk | hk
    · exact wpAny_Name (wpAny_loadName_cell I.ok.kind hk hc hcell fin) hd
    · exact wpAny_Name (wpAny_loadName_free I.ok.kind hk hc hcell fin hcd) hd
theorem pe_int {i j pos} : PE X (.Constant (.int i) j pos) (tC (.int i)) := fun _ _ _ H _ I h => wpAny_Constant_int ⟨.int i, H, I.tok _, ⟨_, rfl⟩, h⟩
theorem pe_bl {b j pos} : PE X (.Constant (.bool b) j pos) (tC (.bl b)) := fun _ _ _ H _ I h => Constant_bool ⟨.bl b, H, I, rfl, h⟩

/-- a global name of the def -/
def Gl (X : Cx) (x : Str) : Prop := X.env.kindOf x = some .globalImplicit
theorem ld_glob {E : Value → Shared → Prop} {pins : List (Addr × Obj)} {s : Shared} {σ : St} {H : Hp} {x : Str} {u : Value} {pos : Pos} {Q : Value → Shared → Prop} (I : Inv X pins σ H s) (hg : Gl X x) (hm : X.mg x = some u) (h : Q u s)
    (hd : (x == ("__debug__" : Str)) = false := by decide) : wpAny (model X.prog X.w) X.A (eval (.Name x pos) X.env) Q E s :=
  Calls.Name_function_global I.ok.kind hg (Calls.loadGlobal_global (by rw [I.ok.glob]; exact I.mod.glob.keeps I.bk) hm h) hd
theorem ld_blt {E : Value → Shared → Prop} {pins : List (Addr × Obj)} {s : Shared} {σ : St} {H : Hp} {x : Str} {u : Value} {pos : Pos} {Q : Value → Shared → Prop} (I : Inv X pins σ H s) (hg : Gl X x) (hm : X.mg x = none) (hv : bootBuiltins x = some u) (h : Q u s)
    (hn : x ≠ "__name__" := by decide) (hd : (x == ("__debug__" : Str)) = false := by decide) : wpAny (model X.prog X.w) X.A (eval (.Name x pos) X.env) Q E s := by
  obtain ⟨mb, h1, h2⟩ := I.mod.blt
  exact Calls.Name_function_global I.ok.kind hg (Calls.loadGlobal_builtin (by rw [I.ok.glob]; exact I.mod.glob.keeps I.bk) hm (by rw [I.ok.blt]; exact h1.keeps I.bk) ((h2 x hn).trans hv) h) hd
/-- a module's constant, a class, a function, as a value -/
theorem pe_glob {x : Str} {v : V} {u : Value} {pos : Pos} (hg : Gl X x) (hm : X.mg x = some u) (r : RelV v u) (hd : (x == ("__debug__" : Str)) = false := by decide) : PE X (.Name x pos) (tC v) :=
  fun _ _ _ H _ I h => ld_glob I hg hm ⟨v, H, I, r, h⟩ hd

/-! ### arithmetic -/
/-- two ints -/
def t2I (ta tb : TE) (k : Int → Int → Hp → Prop) : St → Hp → Prop := fun σ H => ta σ H fun x H1 => tb σ H1 fun y H2 => ∃ i j, x = .int i ∧ y = .int j ∧ k i j H2
variable {a b : Expr} {ta tb : TE} {pos : Pos}

/-! ### comparisons -/
def PC (X : Cx) (op : CmpOp) (a b : Expr) (t : TE) : Prop :=
  ∀ (pins : List (Addr × Obj)) (s : Shared) (σ : St) (H : Hp) (Q : VK), Inv X pins σ H s → t σ H Q →
    wpAny (model X.prog X.w) X.A (eval a X.env) (fun v s₁ => wpAny (model X.prog X.w) X.A (eval b X.env) (fun u s₂ => wpAny (model X.prog X.w) X.A (compareOp op v u) (EP X pins σ Q) X.xe s₂) X.xe s₁) X.xe s
def tCmp (p : Int → Int → Bool) (ta tb : TE) : TE := fun σ H Q => t2I ta tb (fun i j H2 => Q (.bl (p i j)) H2) σ H
abbrev tLe : TE → TE → TE := tCmp fun i j => decide (i ≤ j)
/-- a comparison of two ints, by its rule -/
theorem pc_int {op : CmpOp} {p : Int → Int → Bool} (ha : PE X a ta) (hb : PE X b tb)
    (rule : ∀ (i j : Int) (t u : Tok) (Q : Value → Shared → Prop) (s : Shared), Q (.bool (p i j)) s → wpAny (model X.prog X.w) X.A (compareOp op (.int i t) (.int j u)) Q X.xe s) : PC X op a b (tCmp p ta tb) := by
  intro pins s σ H Q I h
  refine bin ha hb I h fun v u s2 x y H2 I2 rx ry q => ?_
  obtain ⟨i, j, rfl, rfl, q⟩ := q
  obtain ⟨t, rfl⟩ := rx
  obtain ⟨t', rfl⟩ := ry
  exact rule i j t t' _ s2 ⟨.bl _, H2, I2, rfl, q⟩
theorem pc_le (ha : PE X a ta) (hb : PE X b tb) : PC X .LtE a b (tLe ta tb) := pc_int ha hb fun _ _ _ _ _ _ h => le_int h
/-- a comparison as a value, as a test -/
def tB (t : TE) : TT := fun σ H Q => t σ H fun x H1 => ∃ c, x = .bl c ∧ Q c H1
/-- an expression whose value is a bool, as a test -/
theorem pt_val {e : Expr} {t : TE} (h : PE X e t) (he : ∀ whole, isTrue e X.env whole = (do let v ← whole; standAt e.pos; holding [v] (truthy v)) := by intro _; rfl) : PT X e (tB t) := by
  intro pins s σ H Q I hw
  refine isTrue_plain (thn (h pins s σ H _ I hw) fun v s1 ⟨x, H1, I1, r1, q1⟩ => ?_) (he _)
  obtain ⟨d, rfl, q⟩ := q1
  cases r1
  exact wpAny_truthy_bool ⟨H1, I1, q⟩

/-! ### and, or, not -/
variable {tA tB' : TT} {rest : List Expr}
def tAnd (t u : TT) : TT := fun σ H Q => t σ H fun c H1 => if c = true then u σ H1 Q else Q false H1
def tOr (t u : TT) : TT := fun σ H Q => t σ H fun c H1 => if c = true then Q true H1 else u σ H1 Q
def tNot (t : TT) : TT := fun σ H Q => t σ H fun c H1 => Q (!c) H1
theorem pw_and1 (ha : PT X a tA) : PW X (.BoolOp .And [a] pos) tA := by
  intro wh pins s σ H Q I h
  refine isTrue_and (thn (ha pins s σ H Q I h) fun c s1 e => ?_)
  cases c with
  | true => exact isTrue_and_nil e
  | false => exact e
theorem pw_and (ha : PT X a tA) (hb : PW X (.BoolOp .And (b :: rest) pos) tB') : PW X (.BoolOp .And (a :: b :: rest) pos) (tAnd tA tB') := by
  intro wh pins s σ H Q I h
  refine isTrue_and (thn (ha pins s σ H _ I h) fun c s1 ⟨H1, I1, q1⟩ => ?_)
  cases c with
  | true => exact hb wh pins s1 σ H1 Q I1 q1
  | false => exact ⟨H1, I1, q1⟩
theorem pt_not (ha : PT X a tA) : PT X (.UnaryOp .Not a pos) (tNot tA) := by
  intro pins s σ H Q I h
  exact isTrue_not (ha pins s σ H (fun c H1 => Q (!c) H1) I h)
/-- .. as values (bools) -/
def tAndV (ta tb : TE) : TE := fun σ H Q => ta σ H fun x H1 => ∃ c, x = .bl c ∧ if c = true then tb σ H1 Q else Q (.bl false) H1
def tOrV (ta tb : TE) : TE := fun σ H Q => ta σ H fun x H1 => ∃ c, x = .bl c ∧ if c = true then Q (.bl true) H1 else tb σ H1 Q
def tNotV (ta : TE) : TE := fun σ H Q => ta σ H fun x H1 => ∃ c, x = .bl c ∧ Q (.bl (!c)) H1
theorem pe_one {op} {t : TE} (h : PE X a t) : PE X (.BoolOp op [a] pos) t := fun pins s σ H Q I hw => BoolOp_one (h pins s σ H Q I hw)
theorem pe_and (ha : PE X a ta) (hb : PE X (.BoolOp .And (b :: rest) pos) tb) : PE X (.BoolOp .And (a :: b :: rest) pos) (tAndV ta tb) := by
  intro pins s σ H Q I h
  refine BoolOp_and (thn (ha pins s σ H _ I h) fun v s1 ⟨x, H1, I1, r1, q1⟩ => ?_)
  obtain ⟨c, rfl, q1⟩ := q1
  cases r1
  refine wpAny_truthy_bool ?_
  cases c with
  | true => exact hb pins s1 σ H1 Q I1 q1
  | false => exact ⟨.bl false, H1, I1, rfl, q1⟩
/-- a if t else b -/
def tIf (t : TT) (ta tb : TE) : TE := fun σ H Q => t σ H fun c H1 => if c = true then ta σ H1 Q else tb σ H1 Q
theorem pe_ifExp {c : Expr} (hc : PT X c tA) (ha : PE X a ta) (hb : PE X b tb) : PE X (.IfExp c a b pos) (tIf tA ta tb) := by
  intro pins s σ H Q I h
  refine wpAny_IfExp (thn (hc pins s σ H _ I h) fun d s1 ⟨H1, I1, q1⟩ => ?_)
  cases d with
  | true => exact ha pins s1 σ H1 Q I1 q1
  | false => exact hb pins s1 σ H1 Q I1 q1
end
end L2

namespace L2
open PySem PySem.Spec PyProof.Rows

/-! ### a list, a tuple that is read: tracked, frozen, or an object of the module -/
def SqL (K : PySem.W.Frag) (H : Hp) (a : Addr) (xs : List V) : Prop :=
  Rd H a (.lst xs) ∨
    ∃ (o : Obj) (its : Array Value) (n : Nat), K.lookup a = some o ∧ o.cls = .type "list" ∧ o.dict = none ∧ o.data = .seq its n ∧ its.size ≤ sizeLine ∧ Vals xs its.toList
def SqT (K : PySem.W.Frag) (H : Hp) (a : Addr) (xs : List V) : Prop :=
  Rd H a (.tup xs) ∨
    ∃ (o : Obj) (its : Array Value) (n : Nat), K.lookup a = some o ∧ o.cls = .type "tuple" ∧ o.data = .seq its n ∧ its.size ≤ sizeLine ∧ Vals xs its.toList
def absV : Value → Option V
  | .none => some .non
  | .bool b => some (.bl b)
  | .int i _ => some (.int i)
  | .str x _ => some (.str x)
  | .bytes b _ => some (.byt b)
  | .float b _ => some (.flt b)
  | .ref a => some (.ref a)
  | .type n => some (.ty n)
  | _ => none
theorem RelV.abs {x : V} {u : Value} (r : RelV x u) : absV u = some x := by
  cases x with
  | non => cases r; rfl
  | bl _ => cases r; rfl
  | int _ => obtain ⟨t, rfl⟩ := r; rfl
  | str _ => obtain ⟨t, rfl⟩ := r; rfl
  | byt _ => obtain ⟨t, rfl⟩ := r; rfl
  | flt _ => obtain ⟨t, rfl⟩ := r; rfl
  | ref _ => cases r; rfl
  | ty _ => cases r; rfl
theorem RelV.inj {x y : V} {u : Value} (r : RelV x u) (q : RelV y u) : x = y := Option.some.inj (r.abs.symm.trans q.abs)
theorem Vals.inj : ∀ {xs ys : List V} {us : List Value}, Vals xs us → Vals ys us → xs = ys
  | _, _, _, .nil, .nil => rfl
  | _, _, _, .cons r t, .cons r' t' => by rw [r.inj r', Vals.inj t t']
section
variable {X : Cx} {pins : List (Addr × Obj)} {σ : St} {H : Hp} {s : Shared} {a : Addr} {xs ys : List V}
theorem SqL.of {K : PySem.W.Frag} (h : H a = some (.lst xs)) : SqL K H a xs := .inl (.inl h)
theorem SqT.of {K : PySem.W.Frag} (h : H a = some (.tup xs)) : SqT K H a xs := .inl (.inl h)
theorem Inv.list (I : Inv X pins σ H s) (h : SqL X.K H a xs) : ∃ its : List Value, Vals xs its ∧ PlainL s.heap a its.toArray ∧ xs.length ≤ sizeLine := by
  rcases h with h | ⟨o, its, n, hk, hc, hd, hs, hz, r⟩
  · obtain ⟨z, its, n, r, e⟩ := h.ok I.hok
    exact ⟨its, r, ⟨_, n, e, rfl, rfl, rfl⟩, z⟩
  · refine ⟨its.toList, r, ⟨o, n, I.kIn a o hk, hc, hd, by simpa using hs⟩, ?_⟩
    have e := r.length
    simp only [Array.length_toList] at e
    omega
theorem Inv.tuple (I : Inv X pins σ H s) (h : SqT X.K H a xs) : ∃ its : List Value, Vals xs its ∧ IsTup s.heap a its.toArray ∧ xs.length ≤ sizeLine := by
  rcases h with h | ⟨o, its, n, hk, hc, hs, hz, r⟩
  · obtain ⟨z, its, r, p⟩ := h.ok I.hok
    exact ⟨its, r, p, z⟩
  · refine ⟨its.toList, r, ⟨o, I.kIn a o hk, hc, n, by simpa using hs⟩, ?_⟩
    have e := r.length
    simp only [Array.length_toList] at e
    omega
theorem Inv.list_inj (I : Inv X pins σ H s) (h : SqL X.K H a xs) (h' : SqL X.K H a ys) : xs = ys := by
  obtain ⟨its, r, ⟨o, n, e, _, _, d⟩, _⟩ := I.list h
  obtain ⟨its', r', ⟨o', n', e', _, _, d'⟩, _⟩ := I.list h'
  rw [e] at e'; cases e'
  rw [d] at d'
  injection d' with d1 _
  have : its = its' := by simpa using congrArg Array.toList d1
  subst this
  exact r.inj r'
end

/-! ### another wish about exceptions -/
abbrev Cx.wish (X : Cx) (E : Value → Shared → Prop) : Cx := { X with xe := E }
/-- no exception leaves -/
abbrev Cx.nox (X : Cx) : Cx := X.wish fun _ _ => False
theorem Cx.Ok.wish {X : Cx} (ok : X.Ok) (E : Value → Shared → Prop) : (X.wish E).Ok :=
  ⟨ok.mod, ok.kind, ok.glob, ok.blt, ok.above, ok.inj, ok.has, ok.cab, ok.hd, ok.frames, ok.stk, ok.exf, ok.bs, ok.bsz, ok.noex, ok.exfs, ok.funs, ok.frf⟩
theorem Cx.Ok.unwish {X : Cx} {E : Value → Shared → Prop} (ok : (X.wish E).Ok) : X.Ok :=
  ⟨ok.mod, ok.kind, ok.glob, ok.blt, ok.above, ok.inj, ok.has, ok.cab, ok.hd, ok.frames, ok.stk, ok.exf, ok.bs, ok.bsz, ok.noex, ok.exfs, ok.funs, ok.frf⟩
section
variable {X : Cx} {pins : List (Addr × Obj)} {σ : St} {H : Hp} {s : Shared} {E : Value → Shared → Prop}
theorem Inv.wish (I : Inv X pins σ H s) (E : Value → Shared → Prop) : Inv (X.wish E) pins σ H s := ⟨I.ok.wish E, I.os, I.bare, I.base, I.loc, I.cell, I.free, I.freeC, I.pin, I.hok, I.len⟩
theorem Inv.unwish (I : Inv (X.wish E) pins σ H s) : Inv X pins σ H s := ⟨I.ok.unwish, I.os, I.bare, I.base, I.loc, I.cell, I.free, I.freeC, I.pin, I.hok, I.len⟩
theorem SP.unwish {D : Ends} {f : Flow} {s' : Shared} (h : SP (X.wish E) pins D f s') : SP X pins D f s' := by
  cases f with
  | next => obtain ⟨σ', H', I, q⟩ := h; exact ⟨σ', H', I.unwish, q⟩
  | brk => obtain ⟨σ', H', I, q⟩ := h; exact ⟨σ', H', I.unwish, q⟩
  | cont => obtain ⟨σ', H', I, q⟩ := h; exact ⟨σ', H', I.unwish, q⟩
  | ret u => obtain ⟨v, σ', H', I, r, q⟩ := h; exact ⟨v, σ', H', I.unwish, r, q⟩
theorem PE.nox {e : Expr} {t : TE} (h : PE X.nox e t) : PE X e t := fun pins s σ H Q I hw =>
  wpAny_mono (h pins s σ H Q (I.wish _) hw) (fun _ _ ⟨v, H', I', r, q⟩ => ⟨v, H', I'.unwish, r, q⟩) fun _ _ z => False.elim z
theorem PT.nox {e : Expr} {t : TT} (h : PT X.nox e t) : PT X e t := fun pins s σ H Q I hw =>
  wpAny_mono (h pins s σ H Q (I.wish _) hw) (fun _ _ ⟨H', I', q⟩ => ⟨H', I'.unwish, q⟩) fun _ _ z => False.elim z
theorem PSs.nox {st : List Stmt} {t : TS} (h : PSs X.nox st t) : PSs X st t := fun pins s σ H D I hw =>
  wpAny_mono (h pins s σ H D (I.wish _) hw) (fun _ _ q => q.unwish) fun _ _ z => False.elim z
end

/-! ### blocks and small statements -/
section
variable {X : Cx} {st : Stmt} {rest : List Stmt} {t u : TS} {e : Expr} {te : TE} {pos : Pos}
def tNext : TS := fun D σ H => D.nx σ H
def tSeq (t u : TS) : TS := fun D σ H => t { D with nx := u D } σ H
theorem pss_nil : PSs X [] tNext := fun _ _ σ H _ I h => wpAny_execs_nil ⟨σ, H, I, h⟩
theorem pss_cons (h1 : PS X st t) (h2 : PSs X rest u) : PSs X (st :: rest) (tSeq t u) := by
  intro pins s σ H D I h
  refine wpAny_execs_cons (thn (h1 pins s σ H { D with nx := u D } I h) fun f s1 q => ?_)
  cases f with
  | next =>
    obtain ⟨σ', H', I', q⟩ := q
    exact h2 pins s1 σ' H' D I' q
  | ret v => exact q
  | brk => exact q
  | cont => exact q
theorem pss_one (h1 : PS X st t) : PSs X [st] t := by
  intro pins s σ H D I h
  refine wpAny_execs_cons (thn (h1 pins s σ H D I h) fun f s1 q => ?_)
  cases f with
  | next => exact wpAny_execs_nil q
  | ret v => exact q
  | brk => exact q
  | cont => exact q
def tBreak : TS := fun D σ H => D.bk σ H
def tCont : TS := fun D σ H => D.ct σ H
/-- in a def's body nothing is shown -/
theorem Inv.quiet {pins : List (Addr × Obj)} {σ : St} {H : Hp} {s : Shared} (I : Inv X pins σ H s) : interactive X.env = false := by simp [interactive, I.ok.kind]
/-- an expression whose value is dropped -/
def tDrop (te : TE) : TS := fun D σ H => te σ H fun _ H1 => D.nx σ H1
theorem ps_expr (he : PE X e te) (hs : swapsWith e none pos.line X.env = pure false := by rfl) : PS X (.Expr e pos) (tDrop te) := by
  intro pins s σ H D I h
  exact wpAny_Expr_any (thn (he pins s σ H _ I h) fun v s1 ⟨x, H1, I1, r1, q1⟩ => ⟨σ, H1, I1, q1⟩) I.quiet hs
def tRet (te : TE) : TS := fun D σ H => te σ H D.rt
theorem ps_ret (he : PE X e te) : PS X (.Return (some e) pos) (tRet te) := by
  intro pins s σ H D I h
  exact wpAny_Return_some (thn (he pins s σ H _ I h) fun v s1 ⟨x, H1, I1, r1, q1⟩ => ⟨x, σ, H1, I1, r1, q1⟩)
def tRetN : TS := fun D _ H => D.rt .non H
def tIfS (c : TT) (t u : TS) : TS := fun D σ H => c σ H fun b H1 => if b = true then t D σ H1 else u D σ H1
theorem ps_if {c : Expr} {a b : List Stmt} {tc : TT} (hc : PT X c tc) (ha : PSs X a t) (hb : PSs X b u) : PS X (.If c a b pos) (tIfS tc t u) := by
  intro pins s σ H D I h
  refine wpAny_If (thn (hc pins s σ H _ I h) fun d s1 ⟨H1, I1, q1⟩ => ?_)
  cases d with
  | true => exact ha pins s1 σ H1 D I1 q1
  | false => exact hb pins s1 σ H1 D I1 q1
end

/-! ### targets -/
abbrev TG := V → St → Hp → (St → Hp → Prop) → Prop
def PG (X : Cx) (target : Expr) (t : TG) : Prop :=
  ∀ (pins : List (Addr × Obj)) (s : Shared) (σ : St) (H : Hp) (v : V) (u : Value) (Q : St → Hp → Prop), Inv X pins σ H s → RelV v u → t v σ H Q →
    wpAny (model X.prog X.w) X.A (assign target X.env u) (fun _ s' => ∃ σ' H', Inv X pins σ' H' s' ∧ Q σ' H') X.xe s
section
variable {X : Cx} {pos : Pos}
def gName (i : Nat) : TG := fun v σ H Q => Q (σ.set i (some v)) H
theorem pg_name {i : Nat} {x : Str} (hN : X.N.Nodup) (hi : X.N[i]? = some x) (hx : Loc X.env.scope x) (hf : X.fn x = true ∨ X.env.scope.names.lookup x = some .local := by first | exact .inl rfl | exact .inr rfl | assumption) : PG X (.Name x pos) (gName i) := by
  intro pins s σ H v u Q I r h
  exact wpAny_assign_Name (store_ok I hN hi hx r (fun s' I' => ⟨_, H, I', h⟩) hf)
/-- target = value -/
def tAsg (te : TE) (g : TG) : TS := fun D σ H => te σ H fun x H1 => g x σ H1 D.nx
/-- name = value -/
theorem ps_set {i : Nat} {x : Str} {e : Expr} {te : TE} {pos' : Pos} (hN : X.N.Nodup) (hi : X.N[i]? = some x) (hx : Loc X.env.scope x) (he : PE X e te) (hs : swapsWith e (some (.Name x pos')) pos.line X.env = pure false := by rfl) (hf : X.fn x = true ∨ X.env.scope.names.lookup x = some .local := by first | exact .inl rfl | exact .inr rfl | assumption) :
    PS X (.Assign [.Name x pos'] e pos) (tAsg te (gName i)) := by
  intro pins s σ H D I h
  refine wpAny_Assign_Name (thn (he pins s σ H _ I h) fun v s1 ⟨y, H1, I1, r1, q1⟩ => ?_) hs
  exact store_ok I1 hN hi hx r1 (fun s2 I2 => ⟨_, H1, I2, q1⟩) hf
end

/-! ### while -/
section
variable {X : Cx} {pos : Pos}
end

/-! ### what a loop or a comprehension walks -/
/-- at turn i: it yields x (the heap may grow), or it stops -/
structure It where
  go : Nat → Hp → Prop
  yld : Nat → Hp → V → Hp → Prop
  stop : Nat → Hp → Prop
/-- the iterator's own objects may turn: they are not the frame's, not pinned, younger than the entry (or a comprehension's own) -/
def FpOk (X : Cx) (pins : List (Addr × Obj)) (H : Hp) (b : Addr) : Prop :=
  H b = none ∧ b ≠ X.env.locals ∧ b ∉ X.fs ∧ (b ∈ X.ex ∨ X.s_0.heap.objs.size ≤ b) ∧ (∀ x c, X.env.cells.lookup x = some c → c ≠ b) ∧ ∀ p ∈ X.pn ++ pins, p.1 ≠ b
theorem Inv.fpOk {X : Cx} {pins : List (Addr × Obj)} {σ : St} {H H' : Hp} {s : Shared} {b : Addr} (I : Inv X pins σ H s) (hb : s.heap.objs.size ≤ b) (hn : H' b = none) : FpOk X pins H' b := by
  refine ⟨hn, Nat.ne_of_gt (Nat.lt_of_lt_of_le I.lt hb), I.nofs hb, .inr (Nat.le_trans I.sz hb), fun x c e z => ?_, fun p hp z => ?_⟩
  · obtain ⟨v, q⟩ := I.cell x c e
    exact absurd (Nat.lt_of_lt_of_le q.lt (by rw [z]; exact hb)) (Nat.lt_irrefl _)
  · exact absurd (Nat.lt_of_lt_of_le (Heap.lt_size (I.pin p hp).1) (by rw [z]; exact hb)) (Nat.lt_irrefl _)
structure Turn (P : Program) (w : World) (K : PySem.W.Frag) (tg : Expr) (J : It) (fp : List Addr) (it : Addr) (tn : Nat → Heap → Prop) : Prop where
  mem : it ∈ fp
  obj : ∀ i h, tn i h → ∀ b ∈ fp, ∃ o, h.get? b = some o ∧ ∀ v, o.data ≠ .cell v
  keep : ∀ i h h', tn i h → (∀ b ∈ fp, ∀ o, h.get? b = some o → h'.get? b = some o) → tn i h'
  item : ∀ (X : Cx), X.prog = P → X.w = w → X.K = K → X.calm = true → ∀ (i : Nat) (pins : List (Addr × Obj)) (s : Shared) (σ : St) (H : Hp) (E : Value → Shared → Prop), Inv X pins σ H s → (∀ b ∈ fp, FpOk X pins H b) → tn i s.heap → J.go i H →
    wpAny (model P w) X.A (pyNext (.ref it)) (fun r s1 => ∃ u, r = some u ∧
      wpAny (model P w) X.A (letOwnedTupleGo tg (.ref it) u) (fun _ s2 => ∃ x H', Inv X pins σ H' s2 ∧ RelV x u ∧ J.yld i H x H' ∧ tn (i + 1) s2.heap ∧ ∀ b ∈ fp, H' b = none) E s1) E s
  done : ∀ (X : Cx), X.prog = P → X.w = w → X.K = K → X.calm = true → ∀ (i : Nat) (pins : List (Addr × Obj)) (s : Shared) (σ : St) (H : Hp) (E : Value → Shared → Prop), Inv X pins σ H s → (∀ b ∈ fp, FpOk X pins H b) → tn i s.heap → J.stop i H →
    wpAny (model P w) X.A (pyNext (.ref it)) (fun r s1 => r = none ∧ Inv X pins σ H s1) E s
  self : ∀ (A : Around) (i : Nat) (s : Shared) (Q : Value → Shared → Prop) (E : Value → Shared → Prop), tn i s.heap → Q (.ref it) s → wpAny (model P w) A (pyIter (.ref it)) Q E s
abbrev TI := St → Hp → (It → Hp → Prop) → Prop
/-- an iterator has come -/
def PIE (X : Cx) (pins : List (Addr × Obj)) (σ : St) (tg : Expr) (R : It → Hp → Prop) (itv : Value) (s2 : Shared) : Prop :=
  ∃ (it : Addr) (fp : List Addr) (tn : Nat → Heap → Prop) (J : It) (H' : Hp), itv = .ref it ∧ Inv X pins σ H' s2 ∧ Turn X.prog X.w X.K tg J fp it tn ∧ tn 0 s2.heap ∧ (∀ b ∈ fp, FpOk X pins H' b) ∧ R J H'
def PI (X : Cx) (tg iter : Expr) (wi : TI) : Prop :=
  ∀ (pins : List (Addr × Obj)) (s : Shared) (σ : St) (H : Hp) (R : It → Hp → Prop), Inv X pins σ H s → wi σ H R →
    wpAny (model X.prog X.w) X.A (eval iter X.env) (fun v s1 => wpAny (model X.prog X.w) X.A (pyIter v) (PIE X pins σ tg R) X.xe s1) X.xe s

/-- the step ahead of the store is nothing for an iterator that keeps no tuple -/
theorem go_of {M : Model} {A : Around} {E : Value → Shared → Prop} {s : Shared} {tg : Expr} {it : Addr} {u : Value} {o : Obj} {n : String} {vs : Array Value} {Q : Unit → Shared → Prop} (ho : s.heap.get? it = some o) (hc : o.cls = .type n) (hd : o.data = .fields vs)
    (hn : ["enumerate", "zip", "dict_itemiterator", "dict_reverseitemiterator", "odict_iterator", "itertools.zip_longest", "itertools.pairwise"].contains n = false) (hQ : Q () s) : wpAny M A (letOwnedTupleGo tg (.ref it) u) Q E s := by
  unfold letOwnedTupleGo
  cases tg <;> first
    | exact wpAny_pure hQ
    | (cases u <;> first
        | exact wpAny_pure hQ
        | (refine wpAny_bind (wpAny_load ho ?_)
           rw [hc, hd]
           show wpAny M A (if (["enumerate", "zip", "dict_itemiterator", "dict_reverseitemiterator", "odict_iterator", "itertools.zip_longest", "itertools.pairwise"].contains n && vs[0]? == some (rawInt _)) = true then _ else _) Q E s
           rw [if_neg (by intro h; rw [hn, Bool.false_and] at h; cases h)]
           exact wpAny_pure hQ))

/-- the list at a, as it stands at each turn (a loop may append to it) -/
def Itl (K : PySem.W.Frag) (a : Addr) : It :=
  ⟨fun i H => ∃ xs x, SqL K H a xs ∧ xs[i]? = some x, fun i H x H' => H' = H ∧ ∀ xs, SqL K H a xs → xs[i]? = some x, fun i H => ∃ xs, SqL K H a xs ∧ xs.length ≤ i⟩
def Itt (K : PySem.W.Frag) (a : Addr) : It :=
  ⟨fun i H => ∃ xs x, SqT K H a xs ∧ xs[i]? = some x, fun i H x H' => H' = H ∧ ∀ xs, SqT K H a xs → xs[i]? = some x, fun i H => ∃ xs, SqT K H a xs ∧ xs.length ≤ i⟩
/-- lo, lo + 1, .. (n of them) -/
def Itr (lo : Int) (n : Nat) : It := ⟨fun i _ => i < n, fun i H x H' => H' = H ∧ x = .int (lo + i), fun i _ => n ≤ i⟩
theorem turn_list {P : Program} {w : World} {K : PySem.W.Frag} {tg : Expr} (a it : Addr) : Turn P w K tg (Itl K a) [it] it (fun i h => h.IsListIter it a i) where
  mem := by simp
  obj := fun i h st b hb => by
    have e : b = it := by simpa using hb
    subst e
    obtain ⟨o, e, c, d⟩ := st
    exact ⟨o, e, fun v z => by rw [d] at z; cases z⟩
  keep := fun i h h' st k => st.at fun o e => k it (by simp) o e
  item := by
    intro X hP hw hK hc i pins s σ H E I hf st hg
    subst hP hw hK
    obtain ⟨xs, x, hq, hx⟩ := hg
    obtain ⟨its, rv, p, hz⟩ := I.list hq
    obtain ⟨u, hu, ru⟩ := rv.get hx
    obtain ⟨f0, f1, f2, f3, f4, f5⟩ := hf it (by simp)
    refine wpAny_pyNext_list_item st p.isList (x := u) (by simpa using hu) fun h' st' sb => ?_
    have I1 : Inv X pins σ H { s with heap := h' } := I.turned (t' := s.toks) (fun b o hb e => (sb.2 b hb).trans e) f0 f1 f3 f4 f5
    obtain ⟨o, e, c, d⟩ := id st'
    exact ⟨u, rfl, go_of (s := { s with heap := h' }) e c d (by decide) ⟨x, H, I1, ru, ⟨rfl, fun ys hy => by rw [I.list_inj hy hq]; exact hx⟩, st', fun b hb => (hf b hb).1⟩⟩
  done := by
    intro X hP hw hK hc i pins s σ H E I hf st hg
    subst hP hw hK
    obtain ⟨xs, hq, hx⟩ := hg
    obtain ⟨its, rv, p, hz⟩ := I.list hq
    obtain ⟨f0, f1, f2, f3, f4, f5⟩ := hf it (by simp)
    have hl := rv.length
    exact wpAny_pyNext_list_end (I.ok.hd hc) st p.isList (by simp; omega) fun h' eb => ⟨rfl, I.turned (t' := s.toks) (fun b o hb e => eb b o hb e) f0 f1 f3 f4 f5⟩
  self := fun _ _ _ _ _ st h => wpAny_pyIter_listiter st h
theorem turn_range {P : Program} {w : World} {K : PySem.W.Frag} {tg : Expr} (it : Addr) (lo : Int) (n : Nat) : Turn P w K tg (Itr lo n) [it] it (fun i h => IsRangeIter h it (lo + (i : Nat) * 1) ((n : Int) - (i : Nat)) 1) where
  mem := by simp
  obj := fun i h st b hb => by
    have e : b = it := by simpa using hb
    subst e
    exact ⟨_, st, fun v z => by
      have z' : Data.fields _ = Data.cell v := z
      cases z'⟩
  keep := fun i h h' st k => k it (by simp) _ st
  item := by
    intro X hP hw hK hc i pins s σ H E I hf st hg
    subst hP hw hK
    obtain ⟨f0, f1, f2, f3, f4, f5⟩ := hf it (by simp)
    have W := Walks.range (prog := X.prog) (w := X.w) (I.ok.hd hc) it lo 1 n
    refine W.item i s _ _ hg st fun v h' tk hv st' kk => ?_
    obtain ⟨t, rfl⟩ := hv
    have I1 : Inv X pins σ H { s with heap := h', toks := tk } := I.turned (fun b o hb e => kk b o (by simpa using hb) e) f0 f1 f3 f4 f5
    refine ⟨_, rfl, go_of (s := { s with heap := h', toks := tk }) (n := "range_iterator") st' rfl rfl (by decide) ⟨.int (lo + i), H, I1, ⟨t, ?_⟩, ⟨rfl, rfl⟩, st', fun b hb => (hf b hb).1⟩⟩
    rw [Int.mul_one]
  done := by
    intro X hP hw hK hc i pins s σ H E I hf st hg
    subst hP hw hK
    obtain ⟨f0, f1, f2, f3, f4, f5⟩ := hf it (by simp)
    exact wpAny_pyNext_range_end (I.ok.hd hc) st (by have : n ≤ i := hg; omega) fun h' eb => ⟨rfl, I.turned (t' := s.toks) (fun b o hb e => eb b o hb e) f0 f1 f3 f4 f5⟩
  self := fun _ _ _ _ _ st h => wpAny_pyIter_rangeiter st h
end L2

namespace L2
open PySem PySem.Spec PyProof.Rows
section
variable {X : Cx} {tg : Expr}
def iList (K : PySem.W.Frag) (tl : TE) : TI := fun σ H R => tl σ H fun x H1 => ∃ a, x = .ref a ∧ (∃ xs, SqL K H1 a xs) ∧ R (Itl K a) H1
def iTup (K : PySem.W.Frag) (tl : TE) : TI := fun σ H R => tl σ H fun x H1 => ∃ a, x = .ref a ∧ (∃ xs, SqT K H1 a xs) ∧ R (Itt K a) H1
theorem pi_list {l : Expr} {tl : TE} (hl : PE X l tl) : PI X tg l (iList X.K tl) := by
  intro pins s σ H R I h
  refine thn (hl pins s σ H _ I h) fun v s1 ⟨x, H1, I1, r1, q1⟩ => ?_
  obtain ⟨a, e, ⟨xs, hq⟩, q⟩ := q1
  subst e
  cases r1
  obtain ⟨its, rv, p, hz⟩ := I1.list hq
  refine wpAny_pyIter_list p.isList ?_
  refine ⟨s1.heap.objs.size, [s1.heap.objs.size], _, _, H1, rfl, I1.kept (t' := s1.toks) fun b o e => Heap.get?_push_of_some _ e, turn_list a _, ⟨_, Heap.get?_push_size _ rfl, rfl, rfl⟩, fun b hb => ?_, q⟩
  have e : b = s1.heap.objs.size := by simpa using hb
  subst e
  exact I1.fpOk (Nat.le_refl _) (I1.hok.fresh (Nat.le_refl _))
/-- a range object just made, walked -/
theorem range_it {pins : List (Addr × Obj)} {σ : St} {H : Hp} {s : Shared} {R : It → Hp → Prop} {E : Value → Shared → Prop} {lo hi : Int} {t u v : Tok} {tk : Nat} (I : Inv X pins σ H s) (h1 : -(2 ^ 62) ≤ lo) (h2 : lo < 2 ^ 62) (h3 : -(2 ^ 62) ≤ hi) (h4 : hi < 2 ^ 62)
    (q : R (Itr lo (hi - lo).toNat) H) : wpAny (model X.prog X.w) X.A (pyIter (.ref s.heap.objs.size)) (PIE X pins σ tg R) E { s with heap := s.heap.push { cls := .type "range", data := .fields #[.int lo t, .int hi u, .int 1 v] }, toks := tk } := by
  refine wpAny_pyIter_range (IsRange.new ..) (small_one h1 h2 h3 h4) ?_
  have I1 : Inv X pins σ H { s with heap := s.heap.push { cls := .type "range", data := .fields #[.int lo t, .int hi u, .int 1 v] }, toks := tk } := I.kept fun b o e => Heap.get?_push_of_some _ e
  refine ⟨(s.heap.push { cls := .type "range", data := .fields #[.int lo t, .int hi u, .int 1 v] }).objs.size, [(s.heap.push { cls := .type "range", data := .fields #[.int lo t, .int hi u, .int 1 v] }).objs.size], _, _, H, rfl,
    I1.kept (t' := tk) fun b o e => Heap.get?_push_of_some _ e, turn_range _ lo (hi - lo).toNat, ?_, fun b hb => ?_, q⟩
  · have e1 : lo + ((0 : Nat) : Int) * 1 = lo := by simp
    have e2 : (((hi - lo).toNat : Nat) : Int) - ((0 : Nat) : Int) = Builtin.Range.rangeSize lo hi 1 := by rw [rangeSize_one]; split <;> omega
    show IsRangeIter _ _ (lo + ((0 : Nat) : Int) * 1) ((((hi - lo).toNat : Nat) : Int) - ((0 : Nat) : Int)) 1
    rw [e1, e2]
    exact Heap.get?_push_size _ rfl
  · have e : b = (s.heap.push { cls := .type "range", data := .fields #[.int lo t, .int hi u, .int 1 v] }).objs.size := by simpa using hb
    subst e
    exact I1.fpOk (Nat.le_refl _) (I1.hok.fresh (Nat.le_refl _))
def iRng1 (ta : TA) : TI := fun σ H R => ta σ H fun vs H1 => ∃ j : Int, vs = [.int j] ∧ -(2 ^ 62) ≤ j ∧ j < 2 ^ 62 ∧ R (Itr 0 j.toNat) H1
def iRng2 (ta : TA) : TI := fun σ H R => ta σ H fun vs H1 => ∃ i j : Int, vs = [.int i, .int j] ∧ (-(2 ^ 62) ≤ i ∧ i < 2 ^ 62 ∧ -(2 ^ 62) ≤ j ∧ j < 2 ^ 62) ∧ R (Itr i (j - i).toNat) H1
theorem pi_range1 {a : Expr} {ta : TA} {p pos : Pos} (hg : Gl X "range") (hm : X.mg "range" = none) (ha : PA X [a] ta) (hs : starEach [a] X.env = [(false, eval a X.env)] := by rfl) : PI X tg (.Call (.Name "range" p) [a] [] pos) (iRng1 ta) := by
  intro pins s σ H R I h
  refine Call_ (ld_blt I hg hm boot_range (PyProof.Rows.callWith_type1 (thn (ha pos pins s σ H _ I h) fun us s1 ⟨vs, H1, I1, r1, q1⟩ => ?_) hs rfl))
  obtain ⟨j, e, q1, q2, q⟩ := q1
  subst e
  cases r1 with
  | cons r rr =>
    cases rr
    obtain ⟨t, rfl⟩ := r
    exact call_range_1 (range_it I1 (by omega) (by omega) q1 q2 (by simpa using q))
theorem pi_range2 {a b : Expr} {ta : TA} {p pos : Pos} (hg : Gl X "range") (hm : X.mg "range" = none) (ha : PA X [a, b] ta) (hs : starEach [a, b] X.env = [(false, eval a X.env), (false, eval b X.env)] := by rfl) (hs2 : starEach [b] X.env = [(false, eval b X.env)] := by rfl) :
    PI X tg (.Call (.Name "range" p) [a, b] [] pos) (iRng2 ta) := by
  intro pins s σ H R I h
  refine Call_ (ld_blt I hg hm boot_range (PyProof.Rows.callWith_type1 (thn (ha pos pins s σ H _ I h) fun us s1 ⟨vs, H1, I1, r1, q1⟩ => ?_) (by rw [hs, hs2]) (by rw [hs2]; rfl)))
  obtain ⟨i, j, e, ⟨q1, q2, q3, q4⟩, q⟩ := q1
  subst e
  cases r1 with
  | cons r rr =>
    cases rr with
    | cons r' rr =>
      cases rr
      obtain ⟨t, rfl⟩ := r
      obtain ⟨t', rfl⟩ := r'
      exact call_range_2 (range_it I1 q1 q2 q3 q4 q)

/-! ### for -/
/-- W: the invariant by the turn and a measure; N: what the body is to reach -/
def tFor (wi : TI) (g : TG) (tb : TS) : TS := fun D σ H => wi σ H fun J H1 => ∃ W : Nat → Nat → St → Hp → Prop, (∃ m, W 0 m σ H1) ∧ ∀ i m σ H, W i m σ H →
  (J.stop i H ∧ D.nx σ H) ∨ (J.go i H ∧ ∃ N : St → Hp → Prop, (∀ σ' H', N σ' H' → ∃ m', m' < m ∧ W (i + 1) m' σ' H') ∧ ∀ x H', J.yld i H x H' → g x σ H' fun σ2 H2 => tb { D with nx := N, ct := N, bk := D.nx } σ2 H2)
/-- the records at fp as they stand -/
def pinsAt (fp : List Addr) (h : Heap) : List (Addr × Obj) := fp.filterMap fun b => (h.get? b).map fun o => (b, o)
theorem mem_pinsAt {fp : List Addr} {h : Heap} {b : Addr} {o : Obj} (hb : b ∈ fp) (e : h.get? b = some o) : (b, o) ∈ pinsAt fp h := List.mem_filterMap.mpr ⟨b, hb, by rw [e]; rfl⟩
theorem of_pinsAt {fp : List Addr} {h : Heap} {p : Addr × Obj} (hp : p ∈ pinsAt fp h) : p.1 ∈ fp ∧ h.get? p.1 = some p.2 := by
  obtain ⟨b, hb, e⟩ := List.mem_filterMap.mp hp
  cases q : h.get? b with
  | none => rw [q] at e; cases e
  | some o =>
    rw [q] at e
    have e' : (b, o) = p := Option.some.inj e
    subst e'
    exact ⟨hb, q⟩
theorem Inv.pinned {pins : List (Addr × Obj)} {σ : St} {H : Hp} {s : Shared} {fp : List Addr} (I : Inv X pins σ H s) (hf : ∀ b ∈ fp, FpOk X pins H b) (ho : ∀ b ∈ fp, ∃ o, s.heap.get? b = some o ∧ ∀ v, o.data ≠ .cell v) : Inv X (pins ++ pinsAt fp s.heap) σ H s :=
  I.pins_of fun p hp => (List.mem_append.mp hp).elim (fun z => I.pin p (List.mem_append_right _ z)) fun z => by
    obtain ⟨hb, e⟩ := of_pinsAt z
    obtain ⟨f0, f1, f2, _⟩ := hf p.1 hb
    obtain ⟨o, e', d⟩ := ho p.1 hb
    rw [e] at e'; cases e'
    exact ⟨e, f0, f1, f2, d⟩
theorem Inv.unpinned {pins pl : List (Addr × Obj)} {σ : St} {H : Hp} {s : Shared} (I : Inv X (pins ++ pl) σ H s) : Inv X pins σ H s := I.pins_of fun p hp => I.pin p (List.mem_append_right _ (List.mem_append_left _ hp))
theorem ps_for {iter : Expr} {body : List Stmt} {wi : TI} {g : TG} {tb : TS} {pos : Pos} (hp : PassesOwn (model X.prog X.w) X.A X.env X.xe) (hc : X.calm = true) (hi : PI X tg iter wi) (hg : PG X tg g) (hb : PSs X body tb)
    (hs : ∀ x, foldedSetIterable iter X.env x = pure x := by intro _; rfl) : PS X (.For tg iter body [] pos) (tFor wi g tb) := by
  intro pins s σ H D I h
  refine wpAny_For (thn (hi pins s σ H _ I h) fun v s1 h1 => thn h1 fun itv s2 h2 => ?_) hs
  obtain ⟨it, fp, tn, J, H2, e, I2, T, st2, f2, W, ⟨m0, w0⟩, turn⟩ := h2
  subst e
  -- what stays true of the iterator's objects through the loop
  have stat : ∀ {H' : Hp}, (∀ b ∈ fp, H' b = none) → ∀ b ∈ fp, FpOk X pins H' b := fun hn b hb => ⟨hn b hb, (f2 b hb).2⟩
  refine codeAny_forLoop_any (fun n s' => ∃ i σ' H', Inv X pins σ' H' s' ∧ tn i s'.heap ∧ (∀ b ∈ fp, H' b = none) ∧ W i n σ' H') ?_ m0 ⟨0, σ, H2, I2, st2, fun b hb => (f2 b hb).1, w0⟩
  rintro n s3 ⟨i, σ3, H3, I3, st3, fr3, w3⟩
  rcases turn i n σ3 H3 w3 with ⟨stop, qn⟩ | ⟨go, N, hN, step⟩
  · refine wpAny_passesOwn hp (thn (T.done X rfl rfl rfl hc i pins s3 σ3 H3 X.xe I3 (stat fr3) st3 stop) fun r s4 ⟨hr, I4⟩ => ?_)
    subst hr
    exact wpAny_execs_nil ⟨σ3, H3, I4, qn⟩
  · refine wpAny_passesOwn hp (thn (T.item X rfl rfl rfl hc i pins s3 σ3 H3 X.xe I3 (stat fr3) st3 go) fun r s4 ⟨u, hr, h4⟩ => ?_)
    subst hr
    refine wpAny_passesOwn hp (thn h4 fun _ s5 ⟨x, H5, I5, r5, y5, st5, fr5⟩ => ?_)
    have I5' := I5.pinned (stat fr5) (T.obj _ _ st5)
    refine wpAny_passesOwn hp (thn (hg _ s5 σ3 H5 x u _ I5' r5 (step x H5 y5)) fun _ s6 ⟨σ6, H6, I6, q6⟩ => ?_)
    refine wpAny_passesOwn hp (thn (hb _ s6 σ6 H6 _ I6 q6) fun f s7 q7 => ?_)
    have again : ∀ {σ7 : St} {H7 : Hp}, Inv X (pins ++ pinsAt fp s5.heap) σ7 H7 s7 → N σ7 H7 → ∃ m, m < n ∧ ∃ i σ' H', Inv X pins σ' H' s7 ∧ tn i s7.heap ∧ (∀ b ∈ fp, H' b = none) ∧ W i m σ' H' := fun {σ7 H7} I7 n7 => by
      obtain ⟨m', hm, w7⟩ := hN σ7 H7 n7
      refine ⟨m', hm, i + 1, σ7, H7, I7.unpinned, T.keep _ _ _ st5 fun b hb o e => (I7.pin (b, o) (List.mem_append_right _ (List.mem_append_right _ (mem_pinsAt hb e)))).1, fun b hb => ?_, w7⟩
      obtain ⟨o, e, d⟩ := T.obj _ _ st5 b hb
      exact (I7.pin (b, o) (List.mem_append_right _ (List.mem_append_right _ (mem_pinsAt hb e)))).2.1
    cases f with
    | next => obtain ⟨σ7, H7, I7, n7⟩ := q7; exact again I7 n7
    | cont => obtain ⟨σ7, H7, I7, n7⟩ := q7; exact again I7 n7
    | brk => obtain ⟨σ7, H7, I7, q7⟩ := q7; exact ⟨σ7, H7, I7.unpinned, q7⟩
    | ret v => obtain ⟨x7, σ7, H7, I7, r7, q7⟩ := q7; exact ⟨x7, σ7, H7, I7.unpinned, r7, q7⟩
end

/-! ### the forms one uses -/
/-- over a list that the body leaves as it is -/
theorem for_list {K : PySem.W.Frag} {a : Addr} {xs : List V} {g : TG} {tb : TS} {D : Ends} {σ : St} {H : Hp} (Pv : Nat → St → Hp → Prop) (h0 : Pv 0 σ H) (hl : ∀ i σ H, i ≤ xs.length → Pv i σ H → SqL K H a xs)
    (hs : ∀ i x σ H, xs[i]? = some x → Pv i σ H → g x σ H fun σ2 H2 => tb { D with nx := Pv (i + 1), ct := Pv (i + 1), bk := D.nx } σ2 H2) (hd : ∀ σ H, Pv xs.length σ H → D.nx σ H) :
    ∃ W : Nat → Nat → St → Hp → Prop, (∃ m, W 0 m σ H) ∧ ∀ i m σ H, W i m σ H →
      ((Itl K a).stop i H ∧ D.nx σ H) ∨ ((Itl K a).go i H ∧ ∃ N : St → Hp → Prop, (∀ σ' H', N σ' H' → ∃ m', m' < m ∧ W (i + 1) m' σ' H') ∧ ∀ x H', (Itl K a).yld i H x H' → g x σ H' fun σ2 H2 => tb { D with nx := N, ct := N, bk := D.nx } σ2 H2) := by
  refine ⟨fun i m σ H => m = xs.length - i ∧ i ≤ xs.length ∧ Pv i σ H, ⟨xs.length, by simp, Nat.zero_le _, h0⟩, ?_⟩
  rintro i m σ H ⟨rfl, hi, p⟩
  have q := hl i σ H hi p
  by_cases hlt : i < xs.length
  · refine .inr ⟨⟨xs, xs[i], q, by simp [hlt]⟩, Pv (i + 1), fun σ' H' p' => ⟨xs.length - (i + 1), by omega, rfl, hlt, p'⟩, fun x H' y => ?_⟩
    obtain ⟨e, y⟩ := y
    subst e
    exact hs i x σ _ (y xs q) p
  · have e : i = xs.length := by omega
    subst e
    exact .inl ⟨⟨xs, q, Nat.le_refl _⟩, hd σ H p⟩
theorem for_tup {K : PySem.W.Frag} {a : Addr} {xs : List V} {g : TG} {tb : TS} {D : Ends} {σ : St} {H : Hp} (Pv : Nat → St → Hp → Prop) (h0 : Pv 0 σ H) (hl : ∀ i σ H, i ≤ xs.length → Pv i σ H → SqT K H a xs)
    (hs : ∀ i x σ H, xs[i]? = some x → Pv i σ H → g x σ H fun σ2 H2 => tb { D with nx := Pv (i + 1), ct := Pv (i + 1), bk := D.nx } σ2 H2) (hd : ∀ σ H, Pv xs.length σ H → D.nx σ H) :
    ∃ W : Nat → Nat → St → Hp → Prop, (∃ m, W 0 m σ H) ∧ ∀ i m σ H, W i m σ H →
      ((Itt K a).stop i H ∧ D.nx σ H) ∨ ((Itt K a).go i H ∧ ∃ N : St → Hp → Prop, (∀ σ' H', N σ' H' → ∃ m', m' < m ∧ W (i + 1) m' σ' H') ∧ ∀ x H', (Itt K a).yld i H x H' → g x σ H' fun σ2 H2 => tb { D with nx := N, ct := N, bk := D.nx } σ2 H2) := by
  refine ⟨fun i m σ H => m = xs.length - i ∧ i ≤ xs.length ∧ Pv i σ H, ⟨xs.length, by simp, Nat.zero_le _, h0⟩, ?_⟩
  rintro i m σ H ⟨rfl, hi, p⟩
  have q := hl i σ H hi p
  by_cases hlt : i < xs.length
  · refine .inr ⟨⟨xs, xs[i], q, by simp [hlt]⟩, Pv (i + 1), fun σ' H' p' => ⟨xs.length - (i + 1), by omega, rfl, hlt, p'⟩, fun x H' y => ?_⟩
    obtain ⟨e, y⟩ := y
    subst e
    exact hs i x σ _ (y xs q) p
  · have e : i = xs.length := by omega
    subst e
    exact .inl ⟨⟨xs, q, Nat.le_refl _⟩, hd σ H p⟩
theorem for_range {lo : Int} {n : Nat} {g : TG} {tb : TS} {D : Ends} {σ : St} {H : Hp} (Pv : Nat → St → Hp → Prop) (h0 : Pv 0 σ H)
    (hs : ∀ i σ H, i < n → Pv i σ H → g (.int (lo + i)) σ H fun σ2 H2 => tb { D with nx := Pv (i + 1), ct := Pv (i + 1), bk := D.nx } σ2 H2) (hd : ∀ σ H, Pv n σ H → D.nx σ H) :
    ∃ W : Nat → Nat → St → Hp → Prop, (∃ m, W 0 m σ H) ∧ ∀ i m σ H, W i m σ H →
      ((Itr lo n).stop i H ∧ D.nx σ H) ∨ ((Itr lo n).go i H ∧ ∃ N : St → Hp → Prop, (∀ σ' H', N σ' H' → ∃ m', m' < m ∧ W (i + 1) m' σ' H') ∧ ∀ x H', (Itr lo n).yld i H x H' → g x σ H' fun σ2 H2 => tb { D with nx := N, ct := N, bk := D.nx } σ2 H2) := by
  refine ⟨fun i m σ H => m = n - i ∧ i ≤ n ∧ Pv i σ H, ⟨n, by simp, Nat.zero_le _, h0⟩, ?_⟩
  rintro i m σ H ⟨rfl, hi, p⟩
  by_cases hlt : i < n
  · refine .inr ⟨hlt, Pv (i + 1), fun σ' H' p' => ⟨n - (i + 1), by omega, rfl, hlt, p'⟩, fun x H' y => ?_⟩
    obtain ⟨e, y⟩ := y
    subst e y
    exact hs i σ _ hlt p
  · have e : i = n := by omega
    subst e
    exact .inl ⟨Nat.le_refl _, hd σ H p⟩
end L2

namespace L2
open PySem PySem.Spec PyProof.Rows

abbrev R2 := V → V → Hp → VK → Prop
/-- a two-place operation on values: f is binaryOp op, inplaceOp op or compareOp op -/
def OpR (X : Cx) (f : Value → Value → Sem Value) (r : R2) : Prop :=
  ∀ (pins : List (Addr × Obj)) (s : Shared) (σ : St) (H : Hp) (x y : V) (v u : Value) (Q : VK), Inv X pins σ H s → RelV x v → RelV y u → r x y H Q →
    wpAny (model X.prog X.w) X.A (f v u) (EP X pins σ Q) X.xe s
/-- a one-place operation -/
def UnR (X : Cx) (f : Value → Sem Value) (r : V → Hp → VK → Prop) : Prop :=
  ∀ (pins : List (Addr × Obj)) (s : Shared) (σ : St) (H : Hp) (x : V) (v : Value) (Q : VK), Inv X pins σ H s → RelV x v → r x H Q →
    wpAny (model X.prog X.w) X.A (f v) (EP X pins σ Q) X.xe s
/-- a call of a value that is known (a builtin, a type) with values -/
def CallR (X : Cx) (f : Value) (r : List V → Hp → VK → Prop) : Prop :=
  ∀ (pins : List (Addr × Obj)) (s : Shared) (σ : St) (H : Hp) (xs : List V) (us : List Value) (Q : VK), Inv X pins σ H s → Vals xs us → r xs H Q →
    wpAny (model X.prog X.w) X.A (call f us) (EP X pins σ Q) X.xe s

def tOp (r : R2) (ta tb : TE) : TE := fun σ H Q => ta σ H fun x H1 => tb σ H1 fun y H2 => r x y H2 Q
def tUn (r : V → Hp → VK → Prop) (ta : TE) : TE := fun σ H Q => ta σ H fun x H1 => r x H1 Q
/-- ints in, under C, and a value out -/
def rI (C : Int → Int → Prop) (g : Int → Int → V) : R2 := fun x y H Q => ∃ i j, x = .int i ∧ y = .int j ∧ C i j ∧ Q (g i j) H
def rI0 (g : Int → Int → V) : R2 := fun x y H Q => ∃ i j, x = .int i ∧ y = .int j ∧ Q (g i j) H
def rU (g : Int → V) : V → Hp → VK → Prop := fun x H Q => ∃ i, x = .int i ∧ Q (g i) H

section
variable {X : Cx} {a b c : Expr} {ta tb tc : TE} {pos : Pos}

theorem binT (ha : PE X a ta) (hb : PE X b tb) {pins : List (Addr × Obj)} {s : Shared} {σ : St} {H : Hp} {R : V → V → Hp → Prop} (I : Inv X pins σ H s)
    (h : ta σ H fun x H1 => tb σ H1 fun y H2 => R x y H2) {Q : Value → Shared → Prop} {f : Value → Value → Sem Value}
    (hf : ∀ v u s2 x y H2, Inv X pins σ H2 s2 → RelV x v → RelV y u → R x y H2 → wpAny (model X.prog X.w) X.A (f v u) Q X.xe s2) :
    wpAny (model X.prog X.w) X.A (eval a X.env) (fun v s₁ => wpAny (model X.prog X.w) X.A (eval b X.env) (fun u s₂ => wpAny (model X.prog X.w) X.A (f v u) Q X.xe s₂) X.xe s₁) X.xe s := by
  refine thn (ha pins s σ H _ I h) fun v s1 ⟨x, H1, I1, r1, q1⟩ => ?_
  refine thn (hb pins s1 σ H1 _ I1 q1) fun u s2 ⟨y, H2, I2, r2, q2⟩ => ?_
  exact hf v u s2 x y H2 I2 r1 r2 q2

theorem pe_op {op : Operator} {r : R2} (ho : OpR X (binaryOp op) r) (ha : PE X a ta) (hb : PE X b tb) : PE X (.BinOp a op b pos) (tOp r ta tb) := by
  intro pins s σ H Q I h
  exact wpAny_BinOp (binT ha hb I h fun v u s2 x y H2 I2 rx ry q => ho pins s2 σ H2 x y v u Q I2 rx ry q)
theorem pe_un {op : UnaryOp} {r : V → Hp → VK → Prop} (ho : UnR X (unaryOp op) r) (ha : PE X a ta) : PE X (.UnaryOp op a pos) (tUn r ta) := by
  intro pins s σ H Q I h
  exact UnaryOp_ (thn (ha pins s σ H _ I h) fun v s1 ⟨x, H1, I1, r1, q1⟩ => ho pins s1 σ H1 x v Q I1 r1 q1)

/-! ### ints -/
theorem opI {f : Value → Value → Sem Value} {C : Int → Int → Prop} {g : Int → Int → Int}
    (rule : ∀ (i j : Int) (t u : Tok) (s : Shared) (Q : Value → Shared → Prop) (E : Value → Shared → Prop), C i j → Q (.int (g i j) s.toks) { s with toks := s.toks + 1 } → wpAny (model X.prog X.w) X.A (f (.int i t) (.int j u)) Q E s) :
    OpR X f (rI C fun i j => .int (g i j)) := by
  intro pins s σ H x y v u Q I rx ry h
  obtain ⟨i, j, rfl, rfl, hc, q⟩ := h
  obtain ⟨t, rfl⟩ := rx
  obtain ⟨t', rfl⟩ := ry
  exact rule i j t t' s _ _ hc ⟨.int (g i j), H, I.tok _, ⟨_, rfl⟩, q⟩
theorem opI0 {f : Value → Value → Sem Value} {g : Int → Int → Int}
    (rule : ∀ (i j : Int) (t u : Tok) (s : Shared) (Q : Value → Shared → Prop) (E : Value → Shared → Prop), Q (.int (g i j) s.toks) { s with toks := s.toks + 1 } → wpAny (model X.prog X.w) X.A (f (.int i t) (.int j u)) Q E s) :
    OpR X f (rI0 fun i j => .int (g i j)) := by
  intro pins s σ H x y v u Q I rx ry h
  obtain ⟨i, j, rfl, rfl, q⟩ := h
  obtain ⟨t, rfl⟩ := rx
  obtain ⟨t', rfl⟩ := ry
  exact rule i j t t' s _ _ ⟨.int (g i j), H, I.tok _, ⟨_, rfl⟩, q⟩
theorem opB0 {f : Value → Value → Sem Value} {g : Int → Int → Bool}
    (rule : ∀ (i j : Int) (t u : Tok) (s : Shared) (Q : Value → Shared → Prop) (E : Value → Shared → Prop), Q (.bool (g i j)) s → wpAny (model X.prog X.w) X.A (f (.int i t) (.int j u)) Q E s) :
    OpR X f (rI0 fun i j => .bl (g i j)) := by
  intro pins s σ H x y v u Q I rx ry h
  obtain ⟨i, j, rfl, rfl, q⟩ := h
  obtain ⟨t, rfl⟩ := rx
  obtain ⟨t', rfl⟩ := ry
  exact rule i j t t' s _ _ ⟨.bl (g i j), H, I, rfl, q⟩

def CDiv (i j : Int) : Prop := 0 < j ∧ j < 1073741824
def CMul (i j : Int) : Prop := (-(2 ^ 64) < i ∧ i < 2 ^ 64) ∨ (-(2 ^ 64) < j ∧ j < 2 ^ 64)
theorem CMul.ok {i j : Int} (h : CMul i j) : IntMulOk i j := by
  rcases h with ⟨h1, h2⟩ | ⟨h1, h2⟩
  · exact .of_left (intBits_le_64 h1 h2)
  · exact .of_right (intBits_le_64 h1 h2)

theorem op_add : OpR X (binaryOp .Add) (rI0 fun i j => .int (i + j)) := opI0 fun _ _ _ _ _ _ _ q => add_int q
theorem op_sub : OpR X (binaryOp .Sub) (rI0 fun i j => .int (i - j)) := opI0 fun _ _ _ _ _ _ _ q => sub_int q
theorem op_mul : OpR X (binaryOp .Mult) (rI CMul fun i j => .int (i * j)) := opI fun _ _ _ _ _ _ _ hc q => mul_int q hc.ok
/-- // by a positive divisor -/
theorem op_fdiv : OpR X (binaryOp .FloorDiv) (rI CDiv fun i j => .int (i / j)) := opI fun i j _ _ _ _ _ hc q => by
  have h1 : (0 : Int) < j := hc.1
  have h2 : j < 1073741824 := hc.2
  exact floordiv_int (by omega) (by rw [Int.fdiv_eq_ediv_of_nonneg i (by omega)]; exact q) (.inl (PyProof.noPylong_small (by omega)))
/-- % by a positive divisor of any size -/
theorem op_mod : OpR X (binaryOp .Mod) (rI (fun _ j => 0 < j) fun i j => .int (i % j)) := opI fun i j _ _ _ _ _ hc q => by
  have h1 : (0 : Int) < j := hc
  exact mod_int' (by omega) (by rw [Int.fmod_eq_emod_of_nonneg i (by omega)]; exact q)


theorem unI {f : Value → Sem Value} {g : Int → Int}
    (rule : ∀ (i : Int) (t : Tok) (s : Shared) (Q : Value → Shared → Prop) (E : Value → Shared → Prop), Q (.int (g i) s.toks) { s with toks := s.toks + 1 } → wpAny (model X.prog X.w) X.A (f (.int i t)) Q E s) :
    UnR X f (rU fun i => .int (g i)) := by
  intro pins s σ H x v Q I rx h
  obtain ⟨i, rfl, q⟩ := h
  obtain ⟨t, rfl⟩ := rx
  exact rule i t s _ _ ⟨.int (g i), H, I.tok _, ⟨_, rfl⟩, q⟩
theorem un_neg : UnR X (unaryOp .USub) (rU fun i => .int (-i)) := unI fun _ _ _ _ _ q => neg_int q

/-! ### bools among ints: n += (a < b) -/
end

/-! ### comparisons -/
/-- the scalars that == tells apart as data does -/
def scal : V → V → Bool
  | .non, .non => true | .non, .int _ => true | .int _, .non => true | .non, .bl _ => true | .bl _, .non => true | .non, .str _ => true | .str _, .non => true
  | .int _, .int _ => true | .bl _, .bl _ => true | .str _, .str _ => true | .byt _, .byt _ => true
  | .int _, .str _ => true | .str _, .int _ => true | .bl _, .str _ => true | .str _, .bl _ => true
  | _, _ => false
def rEq : R2 := fun x y H Q => scal x y = true ∧ Q (.bl (decide (x = y))) H
def rNe : R2 := fun x y H Q => scal x y = true ∧ Q (.bl (!decide (x = y))) H

theorem dec_int {i j : Int} : decide (V.int i = V.int j) = (i == j) := by
  rw [Bool.eq_iff_iff]
  simp
theorem dec_bl {i j : Bool} : decide (V.bl i = V.bl j) = (i == j) := by
  rw [Bool.eq_iff_iff]
  simp
theorem dec_str {i j : Str} : decide (V.str i = V.str j) = (i == j) := by
  rw [Bool.eq_iff_iff]
  simp
theorem dec_byt {i j : Array UInt8} : decide (V.byt i = V.byt j) = (i.toList == j.toList) := by
  rw [Bool.eq_iff_iff]
  cases i
  cases j
  simp

section
variable {X : Cx} {a b c : Expr} {ta tb tc : TE} {pos : Pos}
theorem fin_bl {pins : List (Addr × Obj)} {σ : St} {H : Hp} {s : Shared} {Q : VK} {k k' : Bool} (I : Inv X pins σ H s) (q : Q (.bl k) H) (e : k = k') : EP X pins σ Q (.bool k') s := by
  subst e
  exact ⟨.bl k, H, I, rfl, q⟩
theorem op_eq : OpR X (compareOp .Eq) rEq := by
  intro pins s σ H x y v u Q I rx ry h
  obtain ⟨hs, q⟩ := h
  cases x with
  | non =>
    cases rx
    cases y with
    | non => cases ry; exact PySem.EqNone.eq_none_none (fin_bl I q (by simp))
    | bl j => cases ry; exact PySem.EqNone.eq_none_bool (fin_bl I q (by simp))
    | int j => obtain ⟨t', rfl⟩ := ry; exact PySem.EqNone.eq_none_int (fin_bl I q (by simp))
    | str j => obtain ⟨t', rfl⟩ := ry; exact PySem.EqNone.eq_none_str (fin_bl I q (by simp))
    | _ => exact absurd (show false = true from hs) Bool.false_ne_true
  | bl i =>
    cases rx
    cases y with
    | non => cases ry; exact PySem.EqNone.eq_bool_none (fin_bl I q (by simp))
    | bl j => cases ry; exact eq_bool (fin_bl I q dec_bl)
    | str j => obtain ⟨t', rfl⟩ := ry; exact PySem.EqMixed.eq_bool_str (fin_bl I q (by simp))
    | _ => exact absurd (show false = true from hs) Bool.false_ne_true
  | int i =>
    obtain ⟨t, rfl⟩ := rx
    cases y with
    | non => cases ry; exact PySem.EqNone.eq_int_none (fin_bl I q (by simp))
    | int j => obtain ⟨t', rfl⟩ := ry; exact eq_int (fin_bl I q dec_int)
    | str j => obtain ⟨t', rfl⟩ := ry; exact PySem.EqMixed.eq_int_str (fin_bl I q (by simp))
    | _ => exact absurd (show false = true from hs) Bool.false_ne_true
  | str i =>
    obtain ⟨t, rfl⟩ := rx
    cases y with
    | non => cases ry; exact PySem.EqNone.eq_str_none (fin_bl I q (by simp))
    | bl j => cases ry; exact PySem.EqMixed.eq_str_bool (fin_bl I q (by simp))
    | int j => obtain ⟨t', rfl⟩ := ry; exact PySem.EqMixed.eq_str_int (fin_bl I q (by simp))
    | str j => obtain ⟨t', rfl⟩ := ry; exact eq_str (fin_bl I q dec_str)
    | _ => exact absurd (show false = true from hs) Bool.false_ne_true
  | byt i =>
    obtain ⟨t, rfl⟩ := rx
    cases y with
    | byt j => obtain ⟨t', rfl⟩ := ry; exact PySem.W.eq_bytes (fin_bl I q dec_byt)
    | _ => exact absurd (show false = true from hs) Bool.false_ne_true
  | _ => cases y <;> exact absurd (show false = true from hs) Bool.false_ne_true
theorem op_ne : OpR X (compareOp .NotEq) rNe := by
  intro pins s σ H x y v u Q I rx ry h
  obtain ⟨hs, q⟩ := h
  cases x with
  | non =>
    cases rx
    cases y with
    | non => cases ry; exact PySem.EqNone.ne_none_none (fin_bl I q (by simp))
    | bl j => cases ry; exact PySem.EqNone.ne_none_bool (fin_bl I q (by simp))
    | int j => obtain ⟨t', rfl⟩ := ry; exact PySem.EqNone.ne_none_int (fin_bl I q (by simp))
    | str j => obtain ⟨t', rfl⟩ := ry; exact PySem.EqNone.ne_none_str (fin_bl I q (by simp))
    | _ => exact absurd (show false = true from hs) Bool.false_ne_true
  | bl i =>
    cases rx
    cases y with
    | non => cases ry; exact PySem.EqNone.ne_bool_none (fin_bl I q (by simp))
    | bl j => cases ry; exact ne_bool (fin_bl I q (congrArg not dec_bl))
    | str j => obtain ⟨t', rfl⟩ := ry; exact PySem.EqMixed.ne_bool_str (fin_bl I q (by simp))
    | _ => exact absurd (show false = true from hs) Bool.false_ne_true
  | int i =>
    obtain ⟨t, rfl⟩ := rx
    cases y with
    | non => cases ry; exact PySem.EqNone.ne_int_none (fin_bl I q (by simp))
    | int j => obtain ⟨t', rfl⟩ := ry; exact ne_int (fin_bl I q (congrArg not dec_int))
    | str j => obtain ⟨t', rfl⟩ := ry; exact PySem.EqMixed.ne_int_str (fin_bl I q (by simp))
    | _ => exact absurd (show false = true from hs) Bool.false_ne_true
  | str i =>
    obtain ⟨t, rfl⟩ := rx
    cases y with
    | non => cases ry; exact PySem.EqNone.ne_str_none (fin_bl I q (by simp))
    | bl j => cases ry; exact PySem.EqMixed.ne_str_bool (fin_bl I q (by simp))
    | int j => obtain ⟨t', rfl⟩ := ry; exact PySem.EqMixed.ne_str_int (fin_bl I q (by simp))
    | str j => obtain ⟨t', rfl⟩ := ry; exact ne_str (fin_bl I q (congrArg not dec_str))
    | _ => exact absurd (show false = true from hs) Bool.false_ne_true
  | byt i =>
    obtain ⟨t, rfl⟩ := rx
    cases y with
    | byt j => obtain ⟨t', rfl⟩ := ry; exact PySem.W.ne_bytes (fin_bl I q (congrArg not dec_byt))
    | _ => exact absurd (show false = true from hs) Bool.false_ne_true
  | _ => cases y <;> exact absurd (show false = true from hs) Bool.false_ne_true

theorem op_lt : OpR X (compareOp .Lt) (rI0 fun i j => .bl (decide (i < j))) := opB0 fun _ _ _ _ _ _ _ q => lt_int q
theorem op_le : OpR X (compareOp .LtE) (rI0 fun i j => .bl (decide (i ≤ j))) := opB0 fun _ _ _ _ _ _ _ q => le_int q
theorem op_gt : OpR X (compareOp .Gt) (rI0 fun i j => .bl (decide (j < i))) := opB0 fun _ _ _ _ _ _ _ q => gt_int q



/-- two rules for one operation: by cases -/
theorem OpR.or {f : Value → Value → Sem Value} {r r' : R2} (h : OpR X f r) (h' : OpR X f r') : OpR X f (fun x y H Q => r x y H Q ∨ r' x y H Q) := by
  intro pins s σ H x y v u Q I rx ry q
  rcases q with q | q
  · exact h pins s σ H x y v u Q I rx ry q
  · exact h' pins s σ H x y v u Q I rx ry q

theorem nomark (b : Expr) {op : CmpOp} (h : op ≠ .In := by decide) (h2 : op ≠ .NotIn := by decide) : behindInMarks op b = false := by
  have e1 : (op == CmpOp.In) = false := by cases op <;> first | rfl | exact absurd rfl h
  have e2 : (op == CmpOp.NotIn) = false := by cases op <;> first | rfl | exact absurd rfl h2
  cases b <;> simp [behindInMarks, e1, e2]
/-- a comparison as a value; hm: nomark b, or (for in, not in) by with_unfolding_all rfl -/
theorem pe_cmpR {op : CmpOp} {r : R2} (ho : OpR X (compareOp op) r) (ha : PE X a ta) (hb : PE X b tb) (hm : behindInMarks op b = false) : PE X (.Compare a [op] [b] pos) (tOp r ta tb) := by
  intro pins s σ H Q I h
  exact wpAny_Compare1 (binT ha hb I h fun v u s2 x y H2 I2 rx ry q => ho pins s2 σ H2 x y v u Q I2 rx ry q) hm
/-- a reading of a value as a test -/
def tTest (t : TE) : TT := fun σ H Q => t σ H fun x H' => ∃ k, x = .bl k ∧ Q k H'
theorem pt_cmpR {op : CmpOp} {r : R2} (ho : OpR X (compareOp op) r) (ha : PE X a ta) (hb : PE X b tb) (hm : behindInMarks op b = false) : PT X (.Compare a [op] [b] pos) (tTest (tOp r ta tb)) := by
  intro pins s σ H Q I h
  refine wpAny_isTrue_Compare1 (thn (ha pins s σ H _ I h) fun v s1 ⟨x, H1, I1, r1, q1⟩ => thn (hb pins s1 σ H1 _ I1 q1) fun u s2 ⟨y, H2, I2, r2, q2⟩ =>
    thn (ho pins s2 σ H2 x y v u _ I2 r1 r2 q2) fun c s3 ⟨z, H3, I3, r3, k, e, q3⟩ => ?_) hm
  subst e
  cases r3
  exact wpAny_truthy_bool ⟨H3, I3, q3⟩
/-- a op1 b op2 c -/
def tChain (r r' : R2) (ta tb tc : TE) : TE := fun σ H Q => ta σ H fun x H1 => tb σ H1 fun y H2 => r x y H2 fun z H3 => ∃ k, z = .bl k ∧
  (if k = true then tc σ H3 fun w' H4 => r' y w' H4 Q else Q (.bl false) H3)
theorem pe_chain {op op' : CmpOp} {r r' : R2} (ho : OpR X (compareOp op) r) (ho' : OpR X (compareOp op') r') (ha : PE X a ta) (hb : PE X b tb) (hc : PE X c tc)
    (hm : lastMarks [op, op'] [b, c] = false := by with_unfolding_all rfl) : PE X (.Compare a [op, op'] [b, c] pos) (tChain r r' ta tb tc) := by
  intro pins s σ H Q I h
  refine Compare_chain (thn (ha pins s σ H _ I h) fun v s1 ⟨x, H1, I1, r1, q1⟩ => chain_link (thn (hb pins s1 σ H1 _ I1 q1) fun u s2 ⟨y, H2, I2, r2, q2⟩ =>
    thn (ho pins s2 σ H2 x y v u _ I2 r1 r2 q2) fun d s3 ⟨z, H3, I3, r3, k, e, q3⟩ => ?_)) hm
  subst e
  cases r3
  refine wpAny_truthy_bool ?_
  cases k with
  | false => exact ite_ff ⟨.bl false, H3, I3, rfl, q3⟩
  | true => exact ite_tt (chain_last (thn (hc pins s3 σ H3 _ I3 q3) fun w' s4 ⟨z', H4, I4, r4, q4⟩ => ho' pins s4 σ H4 y z' u w' Q I4 r2 r4 q4))
theorem pt_chain {op op' : CmpOp} {r r' : R2} (ho : OpR X (compareOp op) r) (ho' : OpR X (compareOp op') r') (ha : PE X a ta) (hb : PE X b tb) (hc : PE X c tc)
    (hm : lastMarks [op, op'] [b, c] = false := by with_unfolding_all rfl) : PT X (.Compare a [op, op'] [b, c] pos) (tTest (tChain r r' ta tb tc)) := by
  intro pins s σ H Q I h
  refine isTrue_chain (thn (ha pins s σ H _ I h) fun v s1 ⟨x, H1, I1, r1, q1⟩ => test_link (thn (hb pins s1 σ H1 _ I1 q1) fun u s2 ⟨y, H2, I2, r2, q2⟩ =>
    thn (ho pins s2 σ H2 x y v u _ I2 r1 r2 q2) fun d s3 ⟨z, H3, I3, r3, k, e, q3⟩ => ?_)) hm
  subst e
  cases r3
  refine wpAny_truthy_bool ?_
  cases k with
  | false =>
    obtain ⟨k', e', q'⟩ := q3
    cases e'
    exact ite_ff ⟨H3, I3, q'⟩
  | true =>
    refine ite_tt (test_last (thn (hc pins s3 σ H3 _ I3 q3) fun w' s4 ⟨z', H4, I4, r4, q4⟩ => thn (ho' pins s4 σ H4 y z' u w' _ I4 r2 r4 q4) fun d' s5 ⟨z2, H5, I5, r5, k2, e2, q5⟩ => ?_))
    subst e2
    cases r5
    exact wpAny_truthy_bool ⟨H5, I5, q5⟩

/-! ### truth -/
theorem line63 : (sizeLine : Nat) < 2 ^ 63 := by rw [sizeLine_eq]; decide

/-! ### strs and bytes -/


/-! ### scalar builtins, by CallR -/
theorem vals1 {x : V} {us : List Value} (r : Vals [x] us) : ∃ u, us = [u] ∧ RelV x u := by
  cases r with
  | cons r1 r2 => cases r2; exact ⟨_, rfl, r1⟩
theorem vals2 {x y : V} {us : List Value} (r : Vals [x, y] us) : ∃ u w', us = [u, w'] ∧ RelV x u ∧ RelV y w' := by
  cases r with
  | cons r1 r2 =>
    cases r2 with
    | cons r3 r4 => cases r4; exact ⟨_, _, rfl, r1, r3⟩
theorem call_max2 (hc : X.calm = true) : CallR X (.builtin "max") (fun xs H Q => ∃ i j, xs = [.int i, .int j] ∧ Q (.int (if j > i then j else i)) H) := by
  intro pins s σ H xs us Q I r h
  obtain ⟨i, j, rfl, q⟩ := h
  obtain ⟨u, w', rfl, ⟨t, rfl⟩, ⟨t', rfl⟩⟩ := vals2 r
  refine max_two_ints (I.ok.hd hc) fun h' tk k => ⟨_, H, I.kept k, ?_, q⟩
  by_cases hj : j > i
  · rw [if_pos hj, if_pos hj]; exact ⟨_, rfl⟩
  · rw [if_neg hj, if_neg hj]; exact ⟨_, rfl⟩
end
end L2

namespace L2
open PySem PySem.Spec PyProof.Rows

/-! ### an instance, its attributes a map -/
structure ObjM (h : Heap) (x dx C : Addr) (mA : Str → Option Value) : Prop where
  obj : h.get? x = some (PySem.W.instObj C dx)
  ns : h.Ns1 dx mA
  ne : dx ≠ x

theorem lookIn_ns {h : Heap} {dx : Addr} {mA : Str → Option Value} (n : h.Ns1 dx mA) : ∃ od, h.get? dx = some od ∧ ∀ name, PySem.W.lookIn name od = some (mA name) := by
  obtain ⟨o, es, ep, ho, hd, hk, _, hm⟩ := n
  refine ⟨o, ho, fun name => ?_⟩
  have e := hm name
  unfold nsFind findBy at e
  rw [← Array.find?_toList] at e
  unfold PySem.W.lookIn
  rw [hd]
  dsimp only
  split
  · rename_i y q
    rw [q] at e
    exact congrArg some e
  · rename_i q
    rw [q] at e
    have a : es.toList.any (·.refKey) = false := by
      rw [List.any_eq_false]
      intro y hy
      obtain ⟨z, t, hkey⟩ := hk y (Array.mem_toList_iff.mp hy)
      simp [DictEntry.refKey, hkey]
    have a' : ¬ es.toList.any (·.refKey) = true := by rw [a]; exact Bool.false_ne_true
    rw [if_neg a']
    exact congrArg some e

theorem ObjM.look {h : Heap} {x dx C : Addr} {mA : Str → Option Value} (I : ObjM h x dx C mA) : ∃ od, PySem.W.InstAt h x (PySem.W.instObj C dx) C (some od) ∧ ∀ name, PySem.W.lookIn name od = some (mA name) :=
  let ⟨od, ho, hl⟩ := lookIn_ns I.ns
  ⟨od, ⟨I.obj, rfl, rfl, ho⟩, hl⟩

section
variable {prog : Program} {w : World} {A : Around} {E : Value → Shared → Prop} {s : Shared} {K : PySem.W.Frag} {x dx C f : Addr} {mA : Str → Option Value} {name : Str} {v : Value}





end

/-! ### the attributes as a list of pairs -/


section
variable {P : Program} {w : World} {H H' : Hp} {h h' : Heap} {a C dx : Addr} {fs fs' : List (Str × V)}
end

/-! ### what of the text a class must have -/
structure Cls (K : PySem.W.Frag) (C : Addr) : Prop where
  pg : PySem.W.plainGet K C Str.empty = true
  hd : PySem.W.hasDictIn K C = true
  po : PySem.W.plainOver K C = true
  sa : PySem.W.findIn K (.ref C) "__setattr__" = some (some (.builtin "object.__setattr__"))
theorem Cls.get {K : PySem.W.Frag} {C : Addr} (c : Cls K C) (f : Str) : PySem.W.plainGet K C f = true := c.pg
/-- a constant of the class -/
structure Con (K : PySem.W.Frag) (C : Addr) (f : Str) (v : V) (u : Value) : Prop where
  at_ : PySem.W.findIn K (.ref C) f = some (some u)
  rel : RelV v u
  get : PySem.W.specialIn K u "__get__" = some none
  cp : PySem.W.copiedNames.contains f = false
/-- a method: a plain def of the class or of one above it -/
structure Meth (K : PySem.W.Frag) (C : Addr) (m : Str) (f : Addr) : Prop where
  at_ : PySem.W.findIn K (.ref C) m = some (some (.ref f))
  fn : PySem.W.isFn K (.ref f) = true
  kp : PySem.W.keepIn K (.ref f) = true

section
variable {X : Cx} {pins : List (Addr × Obj)} {σ : St} {H : Hp} {s : Shared} {a C dx : Addr} {fs : List (Str × V)} {f : Str} {v : V} {A : Around} {E : Value → Shared → Prop}





/-- a new instance, tracked, without attributes -/
theorem Inv.made (I : Inv X pins σ H s) : Inv X pins σ (upd (upd H s.heap.objs.size (.own (s.heap.objs.size + 1))) (s.heap.objs.size + 1) (.ins C s.heap.objs.size []))
    { s with heap := (s.heap.push PySem.W.emptyDict).push (PySem.W.instObj C s.heap.objs.size) } := by
  have e1 : (s.heap.push PySem.W.emptyDict).get? s.heap.objs.size = some PySem.W.emptyDict := Heap.get?_push_size s.heap rfl
  have e2 : ((s.heap.push PySem.W.emptyDict).push (PySem.W.instObj C s.heap.objs.size)).get? (s.heap.objs.size + 1) = some (PySem.W.instObj C s.heap.objs.size) := by
    have := Heap.get?_push_size (s.heap.push PySem.W.emptyDict) (o := PySem.W.instObj C s.heap.objs.size) rfl
    rwa [Heap.size_push] at this
  have e3 : (s.heap.push PySem.W.emptyDict).Ns s.heap.objs.size (fun _ => none) := ⟨PySem.W.emptyDict, #[], _, e1, rfl, (fun e he => absurd he (by simp)), fun _ => rfl⟩
  have I1 := I.laid (a := s.heap.objs.size) (o := .own (s.heap.objs.size + 1)) (h' := s.heap.push PySem.W.emptyDict) (t' := s.toks) (fun b u q => Heap.get?_push_of_some _ q) (Nat.le_refl _) ⟨_, e1⟩
  refine I1.laid (a := s.heap.objs.size + 1) (o := .ins C s.heap.objs.size []) (t' := s.toks) (fun b u q => Heap.get?_push_of_some _ q) (Nat.le_of_eq (Heap.size_push _ _)) ?_
  have ne : s.heap.objs.size ≠ s.heap.objs.size + 1 := Nat.ne_of_lt (Nat.lt_succ_self _)
  refine ⟨by rw [upd_ne ne, upd_same], Nat.zero_le _, ne, e2, fun _ => none, (Heap.Ns1.of_empty e3).at fun o q => Heap.get?_push_of_some _ q, fun _ => True.intro, fun y hy => absurd rfl hy⟩

end

/-! ### readings and rules -/

section
variable {X : Cx} {o e value : Expr} {f : Str} {pos pos' tpos : Pos} {ta tv : TE}

end

/-! ### isinstance -/
section
variable {X : Cx} {pins : List (Addr × Obj)} {σ : St} {H : Hp} {s : Shared} {A : Around} {E : Value → Shared → Prop} {Q : Value → Shared → Prop} {c : Value} {b : Bool}
/-- the type of a value, as the fragment's deciders take it; for an instance its class -/
inductive TyOf (K : PySem.W.Frag) (H : Hp) : V → Value → Prop where
  | non : TyOf K H .non (.type "NoneType")
  | bl (x : Bool) : TyOf K H (.bl x) (.type "bool")
  | int (i : Int) : TyOf K H (.int i) (.type "int")
  | str (x : Str) : TyOf K H (.str x) (.type "str")
  | flt (x : UInt64) : TyOf K H (.flt x) (.type "float")
  | lst {a : Addr} {xs : List V} (e : H a = some (.lst xs)) : TyOf K H (.ref a) (.type "list")
  | frz {a : Addr} {o : Obj} {xs : List V} (e : H a = some (.frz o (.lst xs))) : TyOf K H (.ref a) (.type "list")
  | tup {a : Addr} {xs : List V} (e : H a = some (.tup xs)) : TyOf K H (.ref a) (.type "tuple")
  | dK {a : Addr} {kvs : List (Key × V)} (e : H a = some (.dK kvs)) : TyOf K H (.ref a) (.type "dict")
  | dT {a : Addr} {kvs : List (List Key × V)} (e : H a = some (.dT kvs)) : TyOf K H (.ref a) (.type "dict")
  | ins {a C dx : Addr} {fs : List (Str × V)} (e : H a = some (.ins C dx fs)) (cl : Cls K C) (ha : PySem.W.findIn K (.ref C) "__class__" = some (some (.builtin "object.__class__")))
      (hn : PySem.W.specialIn K (.builtin "object.__class__") "__get__" = some (some (.builtin "getset_descriptor.__get__"))) (htk : PySem.W.takesIn K (.builtin "object.__class__") = some true)
      (hm : PySem.W.mroIn K C (.type "object") = some true) : TyOf K H (.ref a) (.ref C)
end
end L2

namespace L2
open PySem PySem.Spec PyProof.Rows

/-! ### room -/
structure Room (k : Nat) (A : Around) : Prop where
  hd : A.handled = none
  dp : A.depth + 3 * k + 5 < recursionLimit
  un : A.units + 16 * k + 200 < cLine
theorem Room.mono {j k : Nat} {A : Around} (r : Room k A) (h : j ≤ k) : Room j A := ⟨r.hd, by have := r.dp; omega, by have := r.un; omega⟩
theorem Room.deeper {k : Nat} {A : Around} (r : Room (k + 1) A) (env : Env) : Room k (A.deeper env) :=
  ⟨r.hd, by have := r.dp; show A.depth + 1 + 3 * k + 5 < _; omega, by have := r.un; show A.units + 3 + 16 * k + 200 < _; omega⟩
theorem Room.depth {k : Nat} {A : Around} (r : Room k A) : A.depth < recursionLimit := by have := r.dp; omega
theorem Room.units {k : Nat} {A : Around} (r : Room k A) : A.units + 64 < cLine := by have := r.un; omega

/-! ### argument lists and displays -/
def tNil : TA := fun _ H Q => Q [] H
def tCons (ta : TE) (tr : TA) : TA := fun σ H Q => ta σ H fun x H1 => tr σ H1 fun xs H2 => Q (x :: xs) H2
section
variable {X : Cx} {e : Expr} {es : List Expr} {te : TE} {t : TA} {pos : Pos}
theorem pa_nil : PA X [] tNil := fun _ _ _ _ H Q I h => Calls.spliced_nil ⟨[], H, I, .nil, h⟩
theorem pa_cons (ha : PE X e te) (hr : PA X es t) (hs : starEach (e :: es) X.env = (false, eval e X.env) :: starEach es X.env := by rfl) : PA X (e :: es) (tCons te t) := by
  intro pos pins s σ H Q I h
  rw [hs]
  show wpAny _ _ (spliced ((false, eval e X.env) :: backTo pos (starEach es X.env))) _ _ s
  refine Calls.spliced_cons (thn (ha pins s σ H _ I h) fun u s1 ⟨x, H1, I1, r1, q1⟩ => ?_)
  exact thn (hr pos pins s1 σ H1 _ I1 q1) fun us s2 ⟨xs, H2, I2, r2, q2⟩ => ⟨x :: xs, H2, I2, .cons r1 r2, q2⟩

/-- a tuple, a list of written items -/
def tTup (t : TA) : TE := fun σ H Q => t σ H fun xs H1 => xs.length ≤ sizeLine ∧ ∀ p, H1 p = none → Q (.ref p) (upd H1 p (.tup xs))
def tLst (t : TA) : TE := fun σ H Q => t σ H fun xs H1 => xs.length ≤ sizeLine ∧ ∀ p, H1 p = none → Q (.ref p) (upd H1 p (.lst xs))
theorem pe_tup {x1} (h : PA X es t) : PE X (.Tuple es x1 pos) (tTup t) := by
  intro pins s σ H Q I hq
  refine wpAny_Tuple_spliced (thn (h pos pins s σ H _ I hq) fun us s1 ⟨xs, H1, I1, r, z, q⟩ => ⟨by rw [← r.length]; exact z, ?_⟩)
  have hf : H1 s1.heap.objs.size = none := I1.hok.fresh (Nat.le_refl _)
  refine ⟨.ref s1.heap.objs.size, upd H1 s1.heap.objs.size (.tup xs), I1.laid (t' := s1.toks) (fun b u e => Heap.get?_push_of_some _ e) (Nat.le_refl _) ?_, rfl, q _ hf⟩
  exact ⟨z, us, r, ⟨_, Heap.get?_push_size _ rfl, rfl, _, rfl⟩⟩
theorem pe_lst (h : PA X es t) : PE X (.List es pos) (tLst t) := by
  intro pins s σ H Q I hq
  refine wpAny_List_spliced (thn (h pos pins s σ H _ I hq) fun us s1 ⟨xs, H1, I1, r, z, q⟩ => ⟨by rw [← r.length]; exact z, ?_⟩)
  have hf : H1 s1.heap.objs.size = none := I1.hok.fresh (Nat.le_refl _)
  refine ⟨.ref s1.heap.objs.size, upd H1 s1.heap.objs.size (.lst xs), I1.laid (t' := s1.toks) (fun b u e => Heap.get?_push_of_some _ e) (Nat.le_refl _) ?_, rfl, q _ hf⟩
  exact ⟨z, us, 0, r, Heap.get?_push_size _ rfl⟩
end

/-! ### what a def promises -/
/-- a def's promise: the bound arguments in the parameters' order, the heap, the wanted end, the wanted exception -/
abbrev Sp := List V → Hp → VK → XK → Prop
/-- how an exception lies behind a call (file 08 gives it): the callers' frames, abstract heap and state ahead of the call, the wish, the exception, the state -/
abbrev CXT := List Env → Hp → Shared → XK → Value → Shared → Prop

/-- the state at a call -/
structure Env0 (P : Program) (w : World) (K : PySem.W.Frag) (mg : Str → Option Value) (base : Heap) (A : Around) (outer : List Env) (s : Shared) (H : Hp) : Prop where
  frames : A.frames = some outer
  mod : Mod K mg base
  bs : ∀ b o, base.get? b = some o → s.heap.get? b = some o ∧ H b = none
  bsz : base.objs.size ≤ s.heap.objs.size
  funs : s.heap.FunFrames base outer
  frf : ∀ b ∈ frs outer, H b = none
  hok : HOk P w H s.heap
  bare : AllBare s.gens
/-- a call's end -/
def CE (outer : List Env) (P : Program) (w : World) (H : Hp) (s : Shared) (Q : VK) (u : Value) (s' : Shared) : Prop :=
  ∃ v H', s'.os = s.os ∧ AllBare s'.gens ∧ Un (frs outer) [] H H' s.heap s'.heap ∧ HOk P w H' s'.heap ∧ RelV v u ∧ Q v H'
def CR (CX : CXT) (outer : List Env) (P : Program) (w : World) (H : Hp) (s : Shared) (Q : VK) (E : XK) (r : Result) (s' : Shared) : Prop :=
  match r with
  | .ok (.ret u) => CE outer P w H s Q u s'
  | .ok _ => False
  | .error e => CX outer H s E e s'
structure FnOk (P : Program) (w : World) (K : PySem.W.Frag) (mg : Str → Option Value) (base : Heap) (CX : CXT) (k : Nat) (f : Addr) (fd : FuncData) (ps : List Str) (sp : Sp) : Prop where
  len : ∀ vs H Q E, sp vs H Q E → vs.length = ps.length
  run : ∀ (A : Around) (outer : List Env) (s : Shared) (H : Hp) (args : Args) (us : List Value) (vs : List V) (Q : VK) (E : XK), Room k A → Env0 P w K mg base A outer s H → BindsTo s fd args (ps.zip us) → Vals vs us → sp vs H Q E →
    codeAny (model P w) A (.call (.ref f) args) (CR CX outer P w H s Q E) s
theorem FnOk.mono {P : Program} {w : World} {K : PySem.W.Frag} {mg : Str → Option Value} {base : Heap} {CX : CXT} {j k : Nat} {f : Addr} {fd : FuncData} {ps : List Str} {sp : Sp} (F : FnOk P w K mg base CX j f fd ps sp) (h : j ≤ k) :
    FnOk P w K mg base CX k f fd ps sp := ⟨F.len, fun A outer s H args us vs Q E hr => F.run A outer s H args us vs Q E (hr.mono h)⟩


section
variable {X : Cx} {pins : List (Addr × Obj)} {σ : St} {H : Hp} {s s' : Shared}
/-- from a body: what a callee wants -/
theorem Inv.env0 (I : Inv X pins σ H s) : Env0 X.prog X.w X.K X.mg X.base X.A X.stack s H :=
  ⟨I.ok.frames, I.ok.mod, I.bs, Nat.le_trans I.ok.bsz I.sz, I.stack, I.stkFree, I.hok, I.bare⟩
/-- behind a call -/
theorem Inv.after {Q : VK} {u : Value} (I : Inv X pins σ H s) (h : CE X.stack X.prog X.w H s Q u s') : EP X pins σ Q u s' := by
  obtain ⟨v, H', os, bare, un, hok, r, q⟩ := h
  obtain ⟨hh, g, d, t, os'⟩ := s'
  obtain rfl : os' = s.os := os
  exact ⟨v, H', I.call (h' := hh) (g' := g) (d' := d) (t' := t) (ch := []) un hok bare (fun b z => absurd z (by simp)), r, q⟩
end

/-! ### calls -/
/-- f(..): the written arguments, then the defaults dvs; E: what is wanted of an exception -/
def tCall (sp : Sp) (dvs : List V) (E : XK) (t : TA) : TE := fun σ H Q => t σ H fun vs H1 => sp (vs ++ dvs) H1 Q E

/-- how the parameters are bound: us the positional arguments, kw the keywords' values by name, ds the defaults that fill up -/
def Binds (K : PySem.W.Frag) (fd : FuncData) (ps : List Str) (ds : List Value) : Prop :=
  ∀ (s : Shared) (us : List Value), K.In s.heap → (us ++ ds).length = ps.length → BindsTo s fd ⟨us, []⟩ (ps.zip (us ++ ds))
/-- every parameter is given -/
theorem Binds.all {K : PySem.W.Frag} {fd : FuncData} {ps : List Str} (h : ∀ us : List Value, us.length = ps.length → bindArgs fd ⟨us, []⟩ = pure (ps.zip us)) : Binds K fd ps [] := fun s us _ hl => by
  rw [List.append_nil] at hl ⊢
  exact .of_eq (h us hl)

/-- an exception of a callee reaches what this body wants of exceptions -/
def Passes (CX : CXT) (X : Cx) (E : XK) : Prop := ∀ (pins : List (Addr × Obj)) (σ : St) (H : Hp) (s : Shared) (e : Value) (s' : Shared), Inv X pins σ H s → CX X.stack H s E e s' → X.xe e s'

section
variable {X : Cx} {CX : CXT} {k : Nat} {f C : Addr} {fd : FuncData} {ps : List Str} {sp : Sp} {dvs : List V} {ds : List Value} {E : XK} {x m : Str} {p pos apos : Pos} {e o : Expr} {es : List Expr} {ta : TE} {t : TA}

/-- the callee runs -/
theorem run_fn {pins : List (Addr × Obj)} {σ : St} {H : Hp} {s : Shared} {Q : VK} {us : List Value} {vs : List V} (F : FnOk X.prog X.w X.K X.mg X.base CX k f fd ps sp) (hr : Room k X.A) (hb : Binds X.K fd ps ds) (hd : Vals dvs ds) (hx : Passes CX X E)
    (I : Inv X pins σ H s) (r : Vals vs us) (h : sp (vs ++ dvs) H Q E) : wpAny (model X.prog X.w) X.A (call (.ref f) us) (EP X pins σ Q) X.xe s := by
  have r2 : Vals (vs ++ dvs) (us ++ ds) := r.append hd
  have hl : (us ++ ds).length = ps.length := by rw [← r2.length]; exact F.len _ _ _ _ h
  refine wpAny_call (codeAny_mono (F.run X.A X.stack s H ⟨us, []⟩ (us ++ ds) (vs ++ dvs) Q E hr I.env0 (hb s us I.kIn hl) r2 h) fun r s' hq => ?_)
  cases r with
  | error e => exact hx pins σ H s e s' I hq
  | ok fl =>
    cases fl with
    | ret u => exact I.after hq
    | next => exact False.elim hq
    | brk => exact False.elim hq
    | cont => exact False.elim hq

theorem pe_call (F : FnOk X.prog X.w X.K X.mg X.base CX k f fd ps sp) (hr : Room k X.A) (hg : Gl X x) (hm : X.mg x = some (.ref f)) (hk : PySem.W.keepIn X.K (.ref f) = true) (hb : Binds X.K fd ps ds) (hd : Vals dvs ds) (hx : Passes CX X E)
    (ha : PA X (e :: es) t) (hdb : (x == ("__debug__" : Str)) = false := by decide) (he : starEach (e :: es) X.env = (false, eval e X.env) :: starEach es X.env := by rfl) (hpl : (backTo pos (starEach es X.env)).any (·.1) = false := by rfl) :
    PE X (.Call (.Name x p) (e :: es) [] pos) (tCall sp dvs E t) := by
  intro pins s σ H Q I h
  refine wpAny_Call_Name_kw (ld_glob I hg hm ?_ hdb)
  refine PySem.W.callWith_K (h₀ := X.base) I.ok.mod.kin hk (thn (ha pos pins s σ H _ I h) fun us s1 ⟨vs, H1, I1, r, q⟩ => ⟨I1.kIn, ?_⟩) he hpl
  exact run_fn F hr hb hd hx I1 r q


/-- what a class must have to be made -/
structure Mk (K : PySem.W.Frag) (C f : Addr) : Prop where
  makes : PySem.W.makesIn K C = true
  init : PySem.W.findIn K (.ref C) "__init__" = some (some (.ref f))
  fn : PySem.W.isFn K (.ref f) = true
  kp : PySem.W.keepIn K (.ref C) = true

end

/-! ### keywords -/
section
variable {X : Cx} {CX : CXT} {k : Nat} {f C : Addr} {fd : FuncData} {ps ks : List Str} {sp : Sp} {E : XK} {x m : Str} {p pos apos kpos : Pos} {e o : Expr} {es : List Expr} {kws : List Keyword} {te ta : TE} {t tk : TA} {nm : Option Str}

/-- how a call with keywords binds: g puts the positional values us and the keywords' values ws (names ks) in the parameters' order, defaults among them -/
structure KBinds (K : PySem.W.Frag) (fd : FuncData) (ps ks : List Str) (g : List Value → List Value → List Value) (gV : List V → List V → List V) : Prop where
  to : ∀ (s : Shared) (us ws : List Value), K.In s.heap → (g us ws).length = ps.length → BindsTo s fd ⟨us, ks.zip ws⟩ (ps.zip (g us ws))
  rel : ∀ {vs : List V} {us : List Value} {zs : List V} {ws : List Value}, Vals vs us → Vals zs ws → Vals (gV vs zs) (g us ws)
variable {g : List Value → List Value → List Value} {gV : List V → List V → List V}
end

/-! ### a def's body keeps its promise -/
/-- names: the parameters first -/
structure FnScope (N P : List Str) (sc : Scope) : Prop where
  kind : sc.kind = .function
  co : sc.isCoroutine = false
  gen : sc.isGenerator = false
  nd : N.Nodup
  pre : N.take P.length = P
  par : ∀ x ∈ P, sc.names.lookup x = some .local ∨ sc.names.lookup x = some .cell
  nofree : ∀ y ∈ sc.names, y.2 ≠ .free

theorem bindL_out {kindOf : Str → Option NameKind} {x : Str} : ∀ {binds : List (Str × Value)} {m : Str → Option Value}, (∀ v, (x, v) ∉ binds) → bindL kindOf binds m x = m x
  | [], _, _ => rfl
  | (n, v) :: r, m, h => by
    unfold bindL
    rw [bindL_out fun w hw => h w (List.mem_cons_of_mem _ hw)]
    split
    · have : x ≠ n := by rintro rfl; exact h v List.mem_cons_self
      simp [this]
    · rfl
theorem bindC_out {kindOf : Str → Option NameKind} {x : Str} : ∀ {binds : List (Str × Value)} {m : Str → Option Value}, (∀ v, (x, v) ∉ binds) → bindC kindOf binds m x = m x
  | [], _, _ => rfl
  | (n, v) :: r, m, h => by
    unfold bindC
    rw [bindC_out fun w hw => h w (List.mem_cons_of_mem _ hw)]
    split
    · rfl
    · have : x ≠ n := by rintro rfl; exact h v List.mem_cons_self
      simp [this]
theorem bindL_get {kindOf : Str → Option NameKind} {x : Str} {v : Value} : ∀ {P : List Str} {vs : List Value} {i : Nat} {m : Str → Option Value}, P.Nodup → P[i]? = some x → vs[i]? = some v → kindOf x = some .local →
    bindL kindOf (P.zip vs) m x = some v
  | [], _, _, _, _, h, _, _ => by simp at h
  | _ :: _, [], _, _, _, _, h, _ => by simp at h
  | p :: P, w :: vs, 0, m, nd, h1, h2, hk => by
    simp at h1 h2; subst h1; subst h2
    show bindL kindOf ((p, w) :: P.zip vs) m p = _
    unfold bindL
    rw [bindL_out fun v hv => (List.nodup_cons.mp nd).1 (List.of_mem_zip hv).1, if_pos hk]
    simp
  | p :: P, w :: vs, i + 1, m, nd, h1, h2, hk => by
    show bindL kindOf ((p, w) :: P.zip vs) m x = _
    unfold bindL
    exact bindL_get (i := i) (List.nodup_cons.mp nd).2 (by simpa using h1) (by simpa using h2) hk
theorem bindC_get {kindOf : Str → Option NameKind} {x : Str} {v : Value} : ∀ {P : List Str} {vs : List Value} {i : Nat} {m : Str → Option Value}, P.Nodup → P[i]? = some x → vs[i]? = some v → kindOf x ≠ some .local →
    bindC kindOf (P.zip vs) m x = some v
  | [], _, _, _, _, h, _, _ => by simp at h
  | _ :: _, [], _, _, _, _, h, _ => by simp at h
  | p :: P, w :: vs, 0, m, nd, h1, h2, hk => by
    simp at h1 h2; subst h1; subst h2
    show bindC kindOf ((p, w) :: P.zip vs) m p = _
    unfold bindC
    rw [bindC_out fun v hv => (List.nodup_cons.mp nd).1 (List.of_mem_zip hv).1, if_neg hk]
    simp
  | p :: P, w :: vs, i + 1, m, nd, h1, h2, hk => by
    show bindC kindOf ((p, w) :: P.zip vs) m x = _
    unfold bindC
    exact bindC_get (i := i) (List.nodup_cons.mp nd).2 (by simpa using h1) (by simpa using h2) hk

/-- the names' values at the entry -/
def start (N : List Str) (vs : List V) : St := vs.map some ++ List.replicate (N.length - vs.length) none

/-- the context of a def's body, at its entry; an exception leaves the frame, then lies as CX says -/
def cxOf (CX : CXT) (P : Program) (w : World) (K : PySem.W.Frag) (mg : Str → Option Value) (base : Heap) (N : List Str) (qual : Str) (scope : Scope) (f : Addr) (cd : Value) (A : Around) (outer : List Env) (s : Shared) (H : Hp) (E : XK) : Cx where
  prog := P
  w := w
  K := K
  mg := mg
  base := base
  A := A.deeper (envOfC qual scope s.heap.objs.size f cd)
  N := N
  s_0 := s
  H_0 := H
  env := envOfC qual scope s.heap.objs.size f cd
  outer := outer
  stack := envOfC qual scope s.heap.objs.size f cd :: outer
  ex := []
  calm := true
  fn := fun _ => true
  pn := []
  xe := fun e s' => wpAny (model P w) (A.deeper (envOfC qual scope s.heap.objs.size f cd)) (leaving (envOfC qual scope s.heap.objs.size f cd) e) (fun _ s'' => CX outer H s E e s'') (fun e' s'' => CX outer H s E e' s'') s'

theorem cell_has {sc : Scope} {n : Nat} {x : Str} (h : sc.names.lookup x = some .cell) : ∃ c, (cellsFrom n sc.names []).lookup x = some c := by
  have q := PySem.W.cellsFrom_some sc.names n [] (.inl h)
  exact Option.isSome_iff_exists.mp q

theorem inv_start {CX : CXT} {P : Program} {w : World} {K : PySem.W.Frag} {mg : Str → Option Value} {base : Heap} {N ps : List Str} {qual : Str} {scope : Scope} {f : Addr} {cd : Value} {A : Around} {outer : List Env} {s s1 : Shared} {H : Hp} {E : XK} {us : List Value} {vs : List V}
    (S : FnScope N ps scope) (hd : A.handled = none) (e0 : Env0 P w K mg base A outer s H) (hl : vs.length = ps.length) (r : Vals vs us)
    (x : InCallC s s.heap.objs.size (bindL (envOfC qual scope s.heap.objs.size f cd).kindOf (ps.zip us) fun _ => none) (cellsFrom (s.heap.objs.size + 1) scope.names []) (bindC (envOfC qual scope s.heap.objs.size f cd).kindOf (ps.zip us) fun _ => none) s1) :
    Inv (cxOf CX P w K mg base N qual scope f cd A outer s H E) [] (start N vs) H s1 := by
  have hpl : ps.length ≤ N.length := by have := congrArg List.length S.pre; rw [List.length_take] at this; omega
  obtain ⟨h1, tk, rfl, hk⟩ := x.done
  have noA : ∀ b : Addr, b ∉ (cxOf CX P w K mg base N qual scope f cd A outer s H E).ex := fun b z => absurd (show b ∈ ([] : List Addr) from z) (by simp)
  refine ⟨⟨e0.mod, S.kind, rfl, rfl, Nat.le_refl _, fun y z c h1 h2 => ?_, fun y hy => ?_, fun y c _ h => ?_, fun _ => hd, Around.frames_deeper e0.frames, .inr ⟨rfl, rfl⟩, fun b z => absurd z (noA b), e0.bs, e0.bsz, fun b _ _ => noA b, fun b z => absurd z (noA b), e0.funs, e0.frf⟩,
    rfl, e0.bare, Un.kept hk, ⟨_, x.toInCall.ns, fun i y v h1 h2 h3 => ?_⟩, fun y c h => ⟨_, x.cell y c h⟩, e0.hok.fresh (Nat.le_refl _), fun y c h => ?_, fun p hp => absurd (show p ∈ ([] : List (Addr × Obj)) from hp) (by simp), e0.hok.kept hk, ?_⟩
  · exact name_of_addr x.apart (PySem.mem_of_lookup h1) (PySem.mem_of_lookup h2)
  · have hy : scope.names.lookup y = some .cell ∨ scope.names.lookup y = some .free := hy
    rcases hy with hy | hy
    · exact cell_has hy
    · exact absurd rfl (S.nofree _ (PySem.mem_of_lookup hy))
  · exact Nat.le_of_lt (x.above y c (PySem.mem_of_lookup h))
  · have hi : i < vs.length := by
      unfold start at h2
      by_cases hi : i < vs.length
      · exact hi
      · rw [List.getElem?_append_right (by simpa using hi)] at h2
        rw [List.getElem?_replicate] at h2
        split at h2 <;> cases h2
    have ha : vs[i]? = some v := by
      unfold start at h2
      rw [List.getElem?_append_left (by simpa using hi), List.getElem?_map] at h2
      cases e : vs[i]? with
      | none => rw [e] at h2; cases h2
      | some a => rw [e] at h2; cases h2; rfl
    obtain ⟨u, hu, rv⟩ := r.get ha
    have hp : ps[i]? = some y := by
      rw [← S.pre, List.getElem?_take_of_lt (by omega)]; exact h1
    have ndP : ps.Nodup := by rw [← S.pre]; exact S.nd.sublist (List.take_sublist _ _)
    refine ⟨u, rv, ?_⟩
    rcases S.par y (List.mem_of_getElem? hp) with k | k
    · exact .inl ⟨k, bindL_get ndP hp hu k⟩
    · obtain ⟨c, e⟩ := cell_has (n := s.heap.objs.size + 1) k
      refine .inr ⟨.inl k, c, e, ?_⟩
      have q := x.cell y c e
      rw [bindC_get ndP hp hu (by show scope.names.lookup y ≠ _; rw [k]; decide)] at q
      exact q
  · exact e0.hok.fresh (Nat.le_of_lt (x.above y c (PySem.mem_of_lookup h)))
  · unfold start
    show _ = N.length
    rw [List.length_append, List.length_map, List.length_replicate]
    omega

/-- THE RULE: a def (or a method) of the text, by its body. The body's reading t is chosen for each entry; it is run at the parameters' values -/
theorem fn_of {CX : CXT} {P : Program} {w : World} {K : PySem.W.Frag} {mg : Str → Option Value} {base : Heap} {k : Nat} {f : Addr} {name qual : Str} {params : Arguments} {body : List Stmt} {scope : Scope} {dV kV doc pm cdv ct oc : Value} {an od : Option Addr}
    {osl : Array (Option Value)} {N ps : List Str} {sp : Sp} (lk : K.lookup f = some ⟨oc, od, .func (PySem.W.fnOf name qual params body scope dV kV doc pm an cdv ct), osl⟩) (hcd : PySem.W.codeIn K cdv qual = true) (S : FnScope N ps scope)
    (len : ∀ vs H Q E, sp vs H Q E → vs.length = ps.length)
    (hbody : ∀ (A : Around) (outer : List Env) (s : Shared) (H : Hp) (vs : List V) (Q : VK) (E : XK), Room k (A.deeper (envOfC qual scope s.heap.objs.size f cdv)) → sp vs H Q E →
      ∃ t, PSs (cxOf CX P w K mg base N qual scope f cdv A outer s H E) body t ∧ t { nx := fun _ H' => Q .non H', rt := Q } (start N vs) H) :
    FnOk P w K mg base CX (k + 1) f (PySem.W.fnOf name qual params body scope dV kV doc pm an cdv ct) ps sp := by
  refine ⟨len, fun A outer s H args us vs Q E hr e0 hb r hsp => ?_⟩
  have hl := len _ _ _ _ hsp
  have KX : K.In s.heap := e0.mod.kin.keeps fun b o e => (e0.bs b o e).1
  have lim : s.heap.NoLimit := e0.mod.nolimit.keeps fun b o e => (e0.bs b o e).1
  have hkind : ∀ y ∈ ps.zip us, scope.names.lookup y.1 = some .local ∨ (scope.names.lookup y.1 = some .cell ∧ ((cellsFrom (s.heap.objs.size + 1) scope.names []).lookup y.1).isSome = true) := fun ⟨n, v⟩ hy => by
    rcases S.par n (List.of_mem_zip hy).1 with q | q
    · exact .inl q
    · exact .inr ⟨q, PySem.W.cellsFrom_some _ _ _ (.inl q)⟩
  refine codeAny_call_function hr.depth (KX _ _ lk) rfl S.co S.gen rfl (PySem.W.codeRec_of KX hcd) (hb _ _ _ _ ?_)
  refine wpAny_newFunctionEnv_cells S.kind hkind fun env he s1 x => ?_
  subst he
  refine ⟨lim.keeps x.toInCall.keep, codeAny_func ?_⟩
  obtain ⟨t, ht, hq⟩ := hbody A outer s H vs Q E (hr.deeper _) hsp
  have I : Inv (cxOf CX P w K mg base N qual scope f cdv A outer s H E) [] (start N vs) H s1 := inv_start S hr.hd e0 hl r x
  refine wpAny_mono (ht [] s1 (start N vs) H _ I hq) (fun fl s' hs => ?_) fun e s' hs => hs
  have fin : ∀ {σ' : St} {H' : Hp} {v : V} {u : Value}, Inv (cxOf CX P w K mg base N qual scope f cdv A outer s H E) [] σ' H' s' → RelV v u → Q v H' → CE outer P w H s Q u s' :=
    fun {σ' H' v u} J rv q => ⟨v, H', J.os, J.bare, J.base, J.hok, rv, q⟩
  cases fl with
  | ret u =>
    obtain ⟨v, σ', H', J, rv, q⟩ := hs
    exact fin J rv q
  | next =>
    obtain ⟨σ', H', J, q⟩ := hs
    exact fin (v := V.non) (u := Value.none) J rfl q
  | brk =>
    obtain ⟨_, _, _, q⟩ := hs
    exact False.elim q
  | cont =>
    obtain ⟨_, _, _, q⟩ := hs
    exact False.elim q
end L2

namespace L2
open PySem PySem.Spec PyProof.Rows
section
variable {X : Cx} {x : Str} {p pos : Pos} {e : Expr} {es : List Expr} {t : TA} {id T : String} {r : List V → Hp → VK → Prop}

def tCB (r : List V → Hp → VK → Prop) (t : TA) : TE := fun σ H Q => t σ H fun vs H1 => r vs H1 Q
/-- f(e, ..), f a built-in function -/
theorem pe_callB (hc : CallR X (.builtin id) r) (hg : Gl X x) (hm : X.mg x = none) (hv : bootBuiltins x = some (.builtin id)) (ha : PA X (e :: es) t) (hn : x ≠ "__name__" := by decide) (hdb : (x == ("__debug__" : Str)) = false := by decide)
    (he : starEach (e :: es) X.env = (false, eval e X.env) :: starEach es X.env := by rfl) (hpl : (backTo pos (starEach es X.env)).any (·.1) = false := by rfl) : PE X (.Call (.Name x p) (e :: es) [] pos) (tCB r t) := by
  intro pins s σ H Q I h
  refine wpAny_Call_Name_kw (ld_blt I hg hm hv ?_ hn hdb)
  exact PyProof.Rows.callWith_builtin1 (thn (ha pos pins s σ H _ I h) fun us s1 ⟨vs, H1, I1, r1, q1⟩ => hc pins s1 σ H1 vs us Q I1 r1 q1) he hpl
end
end L2

namespace HT
open PySem PyProof.Rows



section
open PySem.SeqAt
open PySem.AutoSeq1 (wpAny_loadPart')
open PySem.MeetsSeq PySem.MeetsSeq2 PySem.MeetsSeq3

end

section
variable {prog : Program} {w : World} {A : Around} {E : Value → Shared → Prop} {s : Shared}



/-! ### t[a:b], not the whole -/
/-- a slice's bound as a place among n (d where it is left out) -/
def sIx (n d : Nat) : Option Int → Nat
  | none => d
  | some v => if v < 0 then (v + (n : Int)).toNat else min v.toNat n
theorem sIx_nat (n d k : Nat) : sIx n d (some (k : Int)) = min k n := by
  show (if (k : Int) < 0 then ((k : Int) + (n : Int)).toNat else min (k : Int).toNat n) = min k n
  rw [if_neg (by omega), Int.toNat_natCast]

end
end HT

namespace L2
open PySem PySem.Spec PyProof.Rows

/-! ### the parts of a slice -/
abbrev TO := St → Hp → (Option Int → Hp → Prop) → Prop
/-- a slice's part (left out, or an int) -/
def PO (X : Cx) (e : Option Expr) (t : TO) : Prop :=
  ∀ (pins : List (Addr × Obj)) (s : Shared) (σ : St) (H : Hp) (Q : Option Int → Hp → Prop), Inv X pins σ H s → t σ H Q →
    wpAny (model X.prog X.w) X.A (evalPart e X.env) (fun u s' => ∃ o H', Inv X pins σ H' s' ∧ IsPart u o ∧ Q o H') X.xe s
def tNoPart : TO := fun _ H Q => Q none H
def tPart (t : TE) : TO := fun σ H Q => t σ H fun x H1 => ∃ i, x = .int i ∧ Q (some i) H1


section
variable {X : Cx} {e : Expr} {te : TE} {lo hi : Option Expr} {tl th : TO} {pos p2 : Pos}

theorem po_some (h : PE X e te) : PO X (some e) (tPart te) := by
  intro pins s σ H Q I hw
  rw [evalPart_some]
  refine thn (h pins s σ H _ I hw) fun u s1 ⟨x, H1, I1, r1, q1⟩ => ?_
  obtain ⟨i, rfl, q⟩ := q1
  obtain ⟨t, rfl⟩ := r1
  exact ⟨some i, H1, I1, .int i t, q⟩

/-- what a slice of a value is, by values: the slice object stands at sl -/
def SlR (X : Cx) (r : V → Option Int → Option Int → Hp → VK → Prop) : Prop :=
  ∀ (pins : List (Addr × Obj)) (s : Shared) (σ : St) (H : Hp) (x : V) (v vl vu : Value) (lo hi : Option Int) (sl : Addr) (Q : VK), Inv X pins σ H s → RelV x v → s.heap.IsSliceOf sl vl vu .none → IsPart vl lo → IsPart vu hi → r x lo hi H Q →
    ∃ T id, typeLookup (.type T) "__getitem__" = pure (some (.builtin id)) ∧ s.TypeIs v T ∧ wpAny (model X.prog X.w) X.A (getItem v (.ref sl)) (EP X pins σ Q) X.xe s
theorem SlR.or {r r' : V → Option Int → Option Int → Hp → VK → Prop} (h : SlR X r) (h' : SlR X r') : SlR X (fun x lo hi H Q => r x lo hi H Q ∨ r' x lo hi H Q) := by
  intro pins s σ H x v vl vu lo hi sl Q I rx hs pl pu q
  rcases q with q | q
  · exact h pins s σ H x v vl vu lo hi sl Q I rx hs pl pu q
  · exact h' pins s σ H x v vl vu lo hi sl Q I rx hs pl pu q
def tSl (r : V → Option Int → Option Int → Hp → VK → Prop) (te : TE) (tl th : TO) : TE := fun σ H Q => te σ H fun x H1 => tl σ H1 fun l H2 => th σ H2 fun u H3 => r x l u H3 Q
/-- a[lo:hi], any a -/
theorem pe_slice {r : V → Option Int → Option Int → Hp → VK → Prop} (hr : SlR X r) (he : PE X e te) (hl : PO X lo tl) (hu : PO X hi th) : PE X (.Subscript e (.Slice lo hi none p2) pos) (tSl r te tl th) := by
  intro pins s σ H Q I h
  refine Subscript_ (thn (he pins s σ H _ I h) fun v s1 ⟨x, H1, I1, r1, q1⟩ => ?_)
  refine wpAny_Slice (thn (hl pins s1 σ H1 _ I1 q1) fun vl s2 ⟨l, H2, I2, pl, q2⟩ => thn (hu pins s2 σ H2 _ I2 q2) fun vu s3 ⟨u, H3, I3, pu, q3⟩ => ?_)
  rw [evalPart_none]
  refine wpAny_pure ?_
  have I4 : Inv X pins σ H3 { s3 with heap := s3.heap.push { cls := .type "slice", data := .fields #[vl, vu, .none] } } := I3.kept (t' := s3.toks) fun b ob q => Heap.get?_push_of_some _ q
  obtain ⟨T, id, hT, ht, hg⟩ := hr pins { s3 with heap := s3.heap.push { cls := .type "slice", data := .fields #[vl, vu, .none] } } σ H3 x v vl vu l u s3.heap.objs.size Q I4 r1 (Heap.IsSliceOf.new ..) pl pu q3
  show wpAny (model X.prog X.w) X.A (subscriptTail e (.Slice lo hi none p2) v (.ref s3.heap.objs.size)) (EP X pins σ Q) X.xe { s3 with heap := s3.heap.push { cls := .type "slice", data := .fields #[vl, vu, .none] } }
  exact tail_any (ops := [.ref s3.heap.objs.size, v]) ht hT hg (by with_unfolding_all rfl)

/-- the items of xs[lo:hi] -/
def cutV (xs : List V) (lo hi : Option Int) : List V := (xs.drop (HT.sIx xs.length 0 lo)).take (HT.sIx xs.length xs.length hi - HT.sIx xs.length 0 lo)
theorem cutV_length (xs : List V) (lo hi : Option Int) : (cutV xs lo hi).length ≤ xs.length := by
  unfold cutV
  rw [List.length_take, List.length_drop]
  omega

/-! ### t < u, t + u -/
end
end L2

namespace L2
open PySem PySem.Spec PyProof.Rows

/-! ### places -/
/-- the place that an index of any sign means -/
def ixN (n : Nat) (i : Int) : Option Nat := if 0 ≤ i then (if i < n then some i.toNat else none) else if -(n : Int) ≤ i then some (i + n).toNat else none
def atI {α : Type} (xs : List α) (i : Int) : Option α := (ixN xs.length i).bind fun j => xs[j]?
theorem ixN_seq {n : Nat} {i : Int} {j : Nat} (h : ixN n i = some j) : seqIndex? i n = some j ∧ j < n ∧ -(n : Int) ≤ i ∧ i < n := by
  unfold ixN at h
  by_cases h0 : 0 ≤ i
  · rw [if_pos h0] at h
    by_cases h1 : i < n
    · rw [if_pos h1] at h
      have e : i.toNat = j := Option.some.inj h
      exact ⟨by rw [seqIndex_of h0 h1, e], by omega, by omega, h1⟩
    · rw [if_neg h1] at h; cases h
  · rw [if_neg h0] at h
    by_cases h1 : -(n : Int) ≤ i
    · rw [if_pos h1] at h
      have e : (i + n).toNat = j := Option.some.inj h
      exact ⟨by rw [seqIndex_neg (by omega) h1, e], by omega, h1, by omega⟩
    · rw [if_neg h1] at h; cases h
theorem atI_get {α : Type} {xs : List α} {i : Int} {v : α} (h : atI xs i = some v) : ∃ j, seqIndex? i xs.length = some j ∧ xs[j]? = some v ∧ j < xs.length ∧ -(xs.length : Int) ≤ i ∧ i < xs.length := by
  unfold atI at h
  cases e : ixN xs.length i with
  | none => rw [e] at h; cases h
  | some j =>
    rw [e] at h
    obtain ⟨h1, h2, h3, h4⟩ := ixN_seq e
    exact ⟨j, h1, h, h2, h3, h4⟩
theorem atI_nat {α : Type} {xs : List α} {j : Nat} {v : α} (h : xs[j]? = some v) : atI xs (j : Int) = some v := by
  have hj : j < xs.length := (List.getElem?_eq_some_iff.mp h).1
  have e : ixN xs.length (j : Int) = some j := by
    unfold ixN
    rw [if_pos (by omega), if_pos (by omega)]; simp
  unfold atI; rw [e]; exact h
theorem atI_last {α : Type} (xs : List α) (v : α) : atI (xs ++ [v]) (-1) = some v := by
  have hl : (xs ++ [v]).length = xs.length + 1 := by simp
  have e : ixN (xs ++ [v]).length (-1) = some xs.length := by
    unfold ixN
    rw [hl, if_neg (by decide), if_pos (by omega)]
    congr 1
    omega
  unfold atI
  rw [e]
  show (xs ++ [v])[xs.length]? = some v
  simp

/-! ### what may be subscripted -/
/-- what stands as an index of a plain subscript -/
def PlainIx (b : Expr) : Prop := ∀ o i, subscripted b false o i = operate [o, i] (getItem o i)
/-- a subscript by values -/
def IxR (X : Cx) (r : R2) : Prop :=
  ∀ (value slice : Expr) (pins : List (Addr × Obj)) (s : Shared) (σ : St) (H : Hp) (x y : V) (v u : Value) (Q : VK), Inv X pins σ H s → RelV x v → RelV y u → r x y H Q →
    subscripted slice false v u = operate [v, u] (getItem v u) → wpAny (model X.prog X.w) X.A (subscriptTail value slice v u) (EP X pins σ Q) X.xe s
/-- a call of a builtin's method by values: the receiver, the arguments -/
def MtR (X : Cx) (id : String) (r : V → List V → Hp → VK → Prop) : Prop :=
  ∀ (pins : List (Addr × Obj)) (s : Shared) (σ : St) (H : Hp) (x : V) (xs : List V) (v : Value) (us : List Value) (Q : VK), Inv X pins σ H s → RelV x v → Vals xs us → r x xs H Q →
    wpAny (model X.prog X.w) X.A (call (.builtin id) (v :: us)) (EP X pins σ Q) X.xe s
section
variable {X : Cx} {a b : Expr} {ta tb : TE} {pos : Pos}
theorem IxR.or {r r' : R2} (h : IxR X r) (h' : IxR X r') : IxR X (fun x y H Q => r x y H Q ∨ r' x y H Q) := by
  intro value slice pins s σ H x y v u Q I rx ry q hs
  rcases q with q | q
  · exact h value slice pins s σ H x y v u Q I rx ry q hs
  · exact h' value slice pins s σ H x y v u Q I rx ry q hs
theorem MtR.or {id : String} {r r' : V → List V → Hp → VK → Prop} (h : MtR X id r) (h' : MtR X id r') : MtR X id (fun x xs H Q => r x xs H Q ∨ r' x xs H Q) := by
  intro pins s σ H x xs v us Q I rx rs q
  rcases q with q | q
  · exact h pins s σ H x xs v us Q I rx rs q
  · exact h' pins s σ H x xs v us Q I rx rs q
/-- a[b] -/
theorem pe_ix {r : R2} (hr : IxR X r) (ha : PE X a ta) (hb : PE X b tb) (hs : PlainIx b) : PE X (.Subscript a b pos) (tOp r ta tb) := by
  intro pins s σ H Q I h
  exact Subscript_ (binT ha hb I h fun v u s2 x y H2 I2 rx ry q => hr a b pins s2 σ H2 x y v u Q I2 rx ry q (hs _ _))

def rIxL (K : PySem.W.Frag) : R2 := fun x y H Q => ∃ p xs i v, x = .ref p ∧ y = .int i ∧ SqL K H p xs ∧ atI xs i = some v ∧ Q v H
theorem ix_list : IxR X (rIxL X.K) := by
  intro value slice pins s σ H x y v u Q I rx ry h hs
  obtain ⟨p, xs, i, z, rfl, rfl, hq, he, q⟩ := h
  cases rx
  obtain ⟨t, rfl⟩ := ry
  obtain ⟨its, r, pl, hz⟩ := I.list hq
  obtain ⟨j, h1, h2, h3, h4, h5⟩ := atI_get he
  obtain ⟨w, ew, rw'⟩ := r.get h2
  have hl := r.length
  have hn := line63
  have fin : EP X pins σ Q w s := ⟨z, H, I, rw', q⟩
  by_cases h0 : 0 ≤ i
  · have hj : i.toNat = j := by
      rw [seqIndex_of h0 h5] at h1
      exact Option.some.inj h1
    exact item_listR pl.isList h0 (by omega) (by rw [hj]; simpa using ew) fin hs
  · have hj : (i + (its.toArray.size : Int)).toNat = j := by
      rw [seqIndex_neg (by omega) h4] at h1
      rw [List.size_toArray, ← hl]
      exact Option.some.inj h1
    exact subscriptTail_builtinR (x := w) pl.isList.typeIs slot_list_getitem.lookup
      (wpAny_getItem_list_neg (Q := fun r s' => r = w ∧ EP X pins σ Q r s') pl.isList (by omega) (by rw [List.size_toArray] <;> omega) (by omega) (by rw [hj]; simpa using ew) ⟨rfl, fin⟩) hs

/-! ### xs[i] = v, any sign -/
theorem Inv.lst {pins : List (Addr × Obj)} {σ : St} {H : Hp} {s : Shared} {p : Addr} {xs : List V} (I : Inv X pins σ H s) (h : H p = some (.lst xs)) :
    ∃ (its : List Value) (n : Nat), Vals xs its ∧ s.heap.get? p = some { cls := .type "list", data := .seq its.toArray n } ∧ xs.length ≤ sizeLine := by
  obtain ⟨z, its, n, r, e⟩ := I.hok p _ h
  exact ⟨its, n, r, e, z⟩

/-! ### slices -/
theorem slice_bounds (lo hi : Option Int) (n : Nat) : (sliceBounds lo hi none n).1 = ((HT.sIx n 0 lo : Nat) : Int) ∧ (sliceBounds lo hi none n).2.1 = ((HT.sIx n n hi : Nat) : Int) ∧ (sliceBounds lo hi none n).2.2 = 1 := by
  refine ⟨?_, ?_, rfl⟩
  · cases lo with
    | none => simp [sliceBounds, HT.sIx]
    | some i =>
      simp only [sliceBounds, HT.sIx, Option.getD_none, show (1 : Int) > 0 by decide, if_true]
      by_cases h : i < 0
      · simp only [h, if_true] <;> omega
      · simp only [h, if_false] <;> omega
  · cases hi with
    | none => simp [sliceBounds, HT.sIx]
    | some i =>
      simp only [sliceBounds, HT.sIx, Option.getD_none, show (1 : Int) > 0 by decide, if_true]
      by_cases h : i < 0
      · simp only [h, if_true] <;> omega
      · simp only [h, if_false] <;> omega
theorem slicePick_cut (its : List Value) (lo hi : Option Int) : slicePick its.toArray lo hi none = ((its.drop (HT.sIx its.length 0 lo)).take (HT.sIx its.length its.length hi - HT.sIx its.length 0 lo)).toArray := by
  obtain ⟨h1, h2, h3⟩ := slice_bounds lo hi its.toArray.size
  unfold slicePick
  rw [h1, h2, h3]
  simp only [sliceRange_one, pick_run, List.size_toArray] <;> rfl
/-- xs[lo:hi] of a list: a new list -/
def rSlL (K : PySem.W.Frag) : V → Option Int → Option Int → Hp → VK → Prop := fun x lo hi H Q => ∃ a xs, x = .ref a ∧ SqL K H a xs ∧ ∀ p, H p = none → Q (.ref p) (upd H p (.lst (cutV xs lo hi)))
theorem sl_list : SlR X (rSlL X.K) := by
  intro pins s σ H x v vl vu lo hi sl Q I rx hs pl pu h
  obtain ⟨a, xs, rfl, hx, q⟩ := h
  cases rx
  obtain ⟨its, r, ht, hz⟩ := I.list hx
  have hlen := r.length
  refine ⟨"list", _, slot_list_getitem.lookup, ht.isList.typeIs, ?_⟩
  refine wpAny_getItem_list_slice ht.isList hs pl pu .none (by simp) ?_ (by rw [List.size_toArray] <;> omega)
  rw [slicePick_cut, ← hlen]
  refine ⟨.ref s.heap.objs.size, _, I.laid (t' := s.toks) (o := .lst (cutV xs lo hi)) (fun b ob q => Heap.get?_push_of_some _ q) (Nat.le_refl _) ?_, rfl, q _ (I.hok.fresh (Nat.le_refl _))⟩
  exact ⟨Nat.le_trans (cutV_length xs lo hi) hz, _, 0, (r.drop (HT.sIx xs.length 0 lo)).take (HT.sIx xs.length xs.length hi - HT.sIx xs.length 0 lo), Heap.get?_push_size _ rfl⟩

/-! ### in, not in: flat items -/
def flatV : V → Bool
  | .non => true
  | .bl _ => true
  | .int _ => true
  | .str _ => true
  | _ => false
/-- == of flat values -/
def eqV : V → V → Bool
  | .non, .non => true
  | .bl a, .bl b => a == b
  | .bl a, .int b => (if a then 1 else 0) == b
  | .int a, .bl b => a == (if b then 1 else 0)
  | .int a, .int b => a == b
  | .str a, .str b => a == b
  | _, _ => false
theorem eqAt_V {A : Around} {s : Shared} {y x : V} {u v : Value} (ry : RelV y u) (rx : RelV x v) (fy : flatV y = true) (fx : flatV x = true) : SeqAt.EqAt A s u v (eqV y x) := by
  cases y with
  | non =>
    cases ry
    cases x with
    | non => cases rx; exact SeqAt.EqAt.same _
    | bl b => cases rx; exact SeqAt.EqAt.none_bool b
    | int b => obtain ⟨t, rfl⟩ := rx; exact SeqAt.EqAt.none_int b t
    | str b => obtain ⟨t, rfl⟩ := rx; exact SeqAt.EqAt.none_str b t
    | _ => exact absurd (show false = true from fx) Bool.false_ne_true
  | bl a =>
    cases ry
    cases x with
    | non => cases rx; exact SeqAt.EqAt.bool_none a
    | bl b => cases rx; exact SeqAt.EqAt.bool_bool a b
    | int b => obtain ⟨t, rfl⟩ := rx; exact SeqAt.EqAt.bool_int a b t
    | str b => obtain ⟨t, rfl⟩ := rx; exact SeqAt.EqAt.bool_str a b t
    | _ => exact absurd (show false = true from fx) Bool.false_ne_true
  | int a =>
    obtain ⟨t', rfl⟩ := ry
    cases x with
    | non => cases rx; exact SeqAt.EqAt.int_none a t'
    | bl b => cases rx; exact SeqAt.EqAt.int_bool a t' b
    | int b => obtain ⟨t, rfl⟩ := rx; exact SeqAt.EqAt.int_int a t' b t
    | str b => obtain ⟨t, rfl⟩ := rx; exact SeqAt.EqAt.int_str a t' b t
    | _ => exact absurd (show false = true from fx) Bool.false_ne_true
  | str a =>
    obtain ⟨t', rfl⟩ := ry
    cases x with
    | non => cases rx; exact SeqAt.EqAt.str_none a t'
    | bl b => cases rx; exact SeqAt.EqAt.str_bool a t' b
    | int b => obtain ⟨t, rfl⟩ := rx; exact SeqAt.EqAt.str_int a t' b t
    | str b => obtain ⟨t, rfl⟩ := rx; exact SeqAt.EqAt.str_str a t' b t
    | _ => exact absurd (show false = true from fx) Bool.false_ne_true
  | _ => exact absurd (show false = true from fy) Bool.false_ne_true
/-- the items' answers, read off the values (a value's own answer does not lean on its token) -/
def eqU (x : V) (u : Value) : Bool := match u with
  | .none => eqV .non x
  | .bool b => eqV (.bl b) x
  | .int i _ => eqV (.int i) x
  | .str z _ => eqV (.str z) x
  | _ => false
theorem eqU_of {x y : V} {u : Value} (r : RelV y u) (f : flatV y = true) : eqU x u = eqV y x := by
  cases y with
  | non => cases r; rfl
  | bl b => cases r; rfl
  | int i => obtain ⟨t, rfl⟩ := r; rfl
  | str z => obtain ⟨t, rfl⟩ := r; rfl
  | _ => exact absurd (show false = true from f) Bool.false_ne_true
theorem any_eqU {x : V} : ∀ {xs : List V} {us : List Value}, Vals xs us → xs.all flatV = true → us.any (eqU x) = xs.any fun y => eqV y x
  | _, _, .nil, _ => rfl
  | y :: xs, u :: us, .cons r t, f => by
    rw [List.all_cons, Bool.and_eq_true] at f
    rw [List.any_cons, List.any_cons, eqU_of r f.1, any_eqU t f.2]
theorem mem_eqAt {A : Around} {s : Shared} {x : V} {v : Value} (rx : RelV x v) (fx : flatV x = true) : ∀ {xs : List V} {us : List Value}, Vals xs us → xs.all flatV = true → ∀ u ∈ us, SeqAt.EqAt A s u v (eqU x u)
  | _, _, .nil, _ => fun u hu => by cases hu
  | y :: xs, u :: us, .cons r t, f => fun u' hu => by
    rw [List.all_cons, Bool.and_eq_true] at f
    rcases List.mem_cons.mp hu with rfl | hu
    · rw [eqU_of r f.1]; exact eqAt_V r rx f.1 fx
    · exact mem_eqAt rx fx t f.2 u' hu
def inV (x : V) (xs : List V) : Bool := xs.any fun y => eqV y x
/-- x in a list or tuple of flat items -/
def rIn (K : PySem.W.Frag) (neg : Bool) : R2 := fun x y H Q => ∃ p xs, y = .ref p ∧ (SqL K H p xs ∨ SqT K H p xs) ∧ flatV x = true ∧ xs.all flatV = true ∧ Q (.bl (if neg then !inV x xs else inV x xs)) H
theorem op_in_seq : OpR X (compareOp .In) (rIn X.K false) := by
  intro pins s σ H x y v u Q I rx ry h
  obtain ⟨p, xs, rfl, hq, fx, fs, q⟩ := h
  cases ry
  rcases hq with hq | hq
  · obtain ⟨its, r, pl, hz⟩ := I.list hq
    refine SeqAt.in_listAt (eqU x) pl.isList (fun w hw => mem_eqAt rx fx r fs w (by simpa using hw)) ⟨.bl _, H, I, rfl, ?_⟩
    rw [show its.toArray.any (eqU x) = its.any (eqU x) by simp, any_eqU r fs]
    exact q
  · obtain ⟨its, r, pl, hz⟩ := I.tuple hq
    refine SeqAt.in_tupleAt (eqU x) pl (fun w hw => mem_eqAt rx fx r fs w (by simpa using hw)) ⟨.bl _, H, I, rfl, ?_⟩
    rw [show its.toArray.any (eqU x) = its.any (eqU x) by simp, any_eqU r fs]
    exact q

/-! ### len, list(x), tuple(x) of any list or tuple that is read -/
theorem call_len_seq : CallR X (.builtin "len") (fun xs H Q => ∃ p ys, xs = [.ref p] ∧ (SqL X.K H p ys ∨ SqT X.K H p ys) ∧ Q (.int ys.length) H) := by
  intro pins s σ H xs us Q I r h
  obtain ⟨p, ys, rfl, hq, q⟩ := h
  obtain ⟨u, rfl, rx⟩ := vals1 r
  cases rx
  have hn := line63
  rcases hq with hq | hq
  · obtain ⟨its, r', pl, hz⟩ := I.list hq
    have hlen := r'.length
    exact Calls.call_len_list pl.isList (by simp only [List.size_toArray] <;> omega) ⟨.int ys.length, H, I.tok _, ⟨s.toks + 1, by rw [List.size_toArray, hlen]⟩, q⟩
  · obtain ⟨its, r', pl, hz⟩ := I.tuple hq
    have hlen := r'.length
    exact len_tuple pl (by simp only [List.size_toArray] <;> omega) ⟨.int ys.length, H, I.tok _, ⟨s.toks + 1, by rw [List.size_toArray, hlen]⟩, q⟩
theorem CallR.or {f : Value} {r r' : List V → Hp → VK → Prop} (h : CallR X f r) (h' : CallR X f r') : CallR X f (fun xs H Q => r xs H Q ∨ r' xs H Q) := by
  intro pins s σ H xs us Q I rs q
  rcases q with q | q
  · exact h pins s σ H xs us Q I rs q
  · exact h' pins s σ H xs us Q I rs q

/-! ### the call of a builtin's method: o.m(..) -/
/-- the value is of that builtin type -/
def tyV (K : PySem.W.Frag) (T : String) (x : V) (H : Hp) : Prop := match x with
  | .str _ => T = "str"
  | .int _ => T = "int"
  | .ref p => (T = "list" ∧ ∃ xs, SqL K H p xs) ∨ (T = "tuple" ∧ ∃ o, K.lookup p = some o ∧ o.cls = .type "tuple" ∧ o.dict = none) ∨
      (T = "dict" ∧ ((∃ kvs, H p = some (.dK kvs)) ∨ ∃ kvs, H p = some (.dT kvs))) ∨ (T = "set" ∧ ∃ S n, H p = some (.set S n))
  | _ => False
theorem tyV_is {pins : List (Addr × Obj)} {σ : St} {H : Hp} {s : Shared} {T : String} {x : V} {v : Value} (I : Inv X pins σ H s) (r : RelV x v) (ty : tyV X.K T x H) :
    s.TypeIs v T ∧ ∀ a, v = .ref a → ∃ ob, s.heap.get? a = some ob ∧ ob.dict = none := by
  cases x with
  | str z =>
    obtain ⟨t, rfl⟩ := r
    cases (show T = "str" from ty)
    exact ⟨typeIs_str s z t, fun _ e => nomatch e⟩
  | int i =>
    obtain ⟨t, rfl⟩ := r
    cases (show T = "int" from ty)
    exact ⟨typeIs_int s i t, fun _ e => nomatch e⟩
  | ref p =>
    cases r
    rcases ty with ⟨rfl, xs, hq⟩ | ⟨rfl, o, hk, hc, hd⟩ | ⟨rfl, hk⟩ | ⟨rfl, S, n, hk⟩
    · obtain ⟨its, _, pl, _⟩ := I.list hq
      refine ⟨pl.isList.typeIs, fun a e => ?_⟩
      cases e
      obtain ⟨o, n, e, c, hd, _⟩ := pl
      exact ⟨o, e, hd⟩
    · refine ⟨⟨o, I.kIn p o hk, hc⟩, fun a e => ?_⟩
      cases e
      exact ⟨o, I.kIn _ o hk, hd⟩
    · have z : ∃ o, s.heap.get? p = some o ∧ o.ExactDict := by
        rcases hk with ⟨kvs, hk⟩ | ⟨kvs, hk⟩
        · obtain ⟨_, _, _, _, o, _, _, e, ex, _⟩ := I.hok p _ hk
          exact ⟨o, e, ex⟩
        · obtain ⟨_, _, _, _, o, _, _, e, ex, _⟩ := I.hok p _ hk
          exact ⟨o, e, ex⟩
      obtain ⟨o, e, ex⟩ := z
      refine ⟨⟨o, e, ex.1⟩, fun a e2 => ?_⟩
      cases e2
      exact ⟨o, e, ex.2.1⟩
    · obtain ⟨o, _, _, _, e, ex, _⟩ := I.hok p _ hk
      refine ⟨⟨o, e, ex.1⟩, fun a e2 => ?_⟩
      cases e2
      exact ⟨o, e, ex.2.1⟩
  | _ => exact False.elim ty
def tBM (K : PySem.W.Frag) (T : String) (r : V → List V → Hp → VK → Prop) (to : TE) (t : TA) : TE := fun σ H Q => to σ H fun x H1 => tyV K T x H1 ∧ t σ H1 fun xs H2 => r x xs H2 Q
variable {o e : Expr} {es : List Expr} {to : TE} {t : TA} {name : Str} {apos cpos : Pos} {T id : String} {r : V → List V → Hp → VK → Prop}
theorem pe_bm (pa : PlainAttrs T) (slot : Slot T name id) (hty : typeOf (.builtin id) = pure (.type "method_descriptor")) (hm : MtR X id r) (ho : PE X o to) (ha : PA X (e :: es) t)
    (hbase : attributeBase o name X.env (eval o X.env) = eval o X.env := by rfl)
    (hfew : ((backTo cpos (starEach (e :: es) X.env)).all (fun x => !x.1) && (backToKw cpos (keywordEach [] X.env)).all (fun x => x.1.isSome)
      && decide ((e :: es).length + ([] : List Keyword).length + (if ([] : List Keyword).isEmpty then 0 else 1) < 30)) = true := by rfl)
    (hline : (apos.endLine == cpos.line) = true := by rfl) (hs : starEach (e :: es) X.env = (false, eval e X.env) :: starEach es X.env := by rfl) (hplain : (backTo cpos (starEach es X.env)).any (·.1) = false := by rfl) :
    PE X (.Call (.Attribute o name apos) (e :: es) [] cpos) (tBM X.K T r to t) := by
  intro pins s σ H Q I h
  refine wpAny_Call_method_late hbase hfew hline rfl (thn (ho pins s σ H _ I h) fun v s1 ⟨x, H1, I1, r1, ty, q1⟩ => ?_)
  obtain ⟨h1, h2⟩ := tyV_is I1 r1 ty
  refine ⟨T, id, pa, slot, hty, h1, h2, ?_⟩
  have hA := ha cpos pins s1 σ H1 _ I1 q1
  rw [hs] at hA ⊢
  refine Calls.callWith_builtin (by show (false || (backTo cpos (starEach es X.env)).any (·.1)) = false; rw [hplain] <;> rfl) (Calls.evalArgs_plain ?_)
  exact thn hA fun us s2 ⟨vs, H2, I2, r2, q2⟩ => hm pins s2 σ H2 x vs v us Q I2 r1 r2 q2
/- xs.append(e), list.index on a module's tuple .. are MtR facts of 06m -/
end
end L2

namespace L2
open PySem PySem.Spec PyProof.Rows

def MtM (X : Cx) (id : String) (r : V → List V → Hp → VK → Prop) : Prop :=
  ∀ (pins : List (Addr × Obj)) (s : Shared) (σ : St) (H : Hp) (x : V) (xs : List V) (v : Value) (us : List Value) (Q : VK), Inv X pins σ H s → RelV x v → Vals xs us → r x xs H Q →
    wpAny (model X.prog X.w) X.A (call (.builtin id) (v :: us)) (EP X pins σ Q) X.xe s

/-! ### lists of values -/
theorem Vals.one : ∀ {x : V} {us : List Value}, Vals [x] us → ∃ u, us = [u] ∧ RelV x u
  | _, _, .cons r .nil => ⟨_, rfl, r⟩
theorem Vals.two : ∀ {x y : V} {us : List Value}, Vals [x, y] us → ∃ u v, us = [u, v] ∧ RelV x u ∧ RelV y v
  | _, _, _, .cons r (.cons q .nil) => ⟨_, _, rfl, r, q⟩
theorem Vals.zero : ∀ {us : List Value}, Vals [] us → us = []
  | _, .nil => rfl
theorem Vals.rep {xs : List V} {us : List Value} (h : Vals xs us) : ∀ k : Nat, Vals (List.replicate k xs).flatten (List.replicate k us).flatten
  | 0 => .nil
  | k + 1 => by
    rw [List.replicate_succ, List.replicate_succ, List.flatten_cons, List.flatten_cons]
    exact Vals.append h (Vals.rep h k)
theorem foldl_rep (its : List Value) : ∀ (k : Nat) (acc : List Value),
    List.foldl (fun x1 x2 => x1 ++ x2) acc.toArray (List.replicate k its.toArray) = (acc ++ (List.replicate k its).flatten).toArray
  | 0, acc => by simp
  | k + 1, acc => by
    have e : acc.toArray ++ its.toArray = (acc ++ its).toArray := by simp
    have e2 : (acc ++ its) ++ (List.replicate k its).flatten = acc ++ (List.replicate (k + 1) its).flatten := by
      rw [List.replicate_succ, List.flatten_cons, List.append_assoc]
    rw [← e2, ← foldl_rep its k (acc ++ its), ← e, List.replicate_succ, List.foldl_cons]

section
variable {X : Cx} {pins : List (Addr × Obj)} {σ : St} {H : Hp} {s : Shared} {l b : Addr} {xs ys zs : List V}

/-! ### the two steps: a tracked list is rewritten, a new list is laid -/
theorem Inv.lset {its its' : List Value} {n : Nat} {f : Array Value → Array Value} {t' : Nat} (I : Inv X pins σ H s) (hH : H l = some (.lst xs))
    (e : s.heap.get? l = some { cls := .type "list", data := .seq its.toArray n }) (hf : f its.toArray = its'.toArray) (hv : Vals ys its') (hz : ys.length ≤ sizeLine) :
    Inv X pins σ (upd H l (.lst ys)) { s with heap := s.heap.update l (Obj.mapSeq f), toks := t' } := by
  have q := PySem.IsL.update e f
  rw [hf] at q
  refine I.write (x := l) (e := l) (by rw [hH]; exact trivial) (.inl rfl) (fun b' u hb hu => (Heap.get?_update_other s.heap (Obj.mapSeq f) (Ne.symm hb)).trans hu) ⟨_, q⟩ ?_
  exact ⟨hz, its', _, hv, q⟩
theorem Inv.lnew {its : List Value} {t' : Nat} (I : Inv X pins σ H s) (hv : Vals ys its) (hz : ys.length ≤ sizeLine) :
    Inv X pins σ (upd H s.heap.objs.size (.lst ys)) { s with heap := s.heap.push { cls := .type "list", data := .seq its.toArray }, toks := t' } :=
  I.laid (fun _ _ q => Heap.get?_push_of_some _ q) (Nat.le_refl _) ⟨hz, its, 0, hv, Heap.get?_push_size _ rfl⟩
theorem Inv.fresh (I : Inv X pins σ H s) : H s.heap.objs.size = none := I.hok.fresh (Nat.le_refl _)
theorem Inv.lstM (I : Inv X pins σ H s) (hH : H l = some (.lst xs)) : xs.length ≤ sizeLine ∧ ∃ (its : List Value) (n : Nat), Vals xs its ∧ xs.length = its.length ∧ s.heap.get? l = some { cls := .type "list", data := .seq its.toArray n } := by
  obtain ⟨z, its, n, r, e⟩ := I.hok l _ hH
  exact ⟨z, its, n, r, r.length, e⟩

theorem notLongL {n : Nat} (h : n ≤ sizeLine) : Builtin.List.listTooLong n = false := by
  unfold Builtin.List.listTooLong
  exact decide_eq_false (by omega)
end

section
variable {X : Cx}

/-! ### methods -/
def rAppend : V → List V → Hp → VK → Prop := fun x vs H Q => ∃ l xs y, x = .ref l ∧ vs = [y] ∧ H l = some (.lst xs) ∧ xs.length < sizeLine ∧ Q .non (upd H l (.lst (xs ++ [y])))
theorem mt_append : MtM X "list.append" rAppend := by
  intro pins s σ H x vs v us Q I rx rv h
  obtain ⟨l, xs, y, rfl, rfl, hH, hz, q⟩ := h
  cases rx
  obtain ⟨u, rfl, ru⟩ := rv.one
  obtain ⟨z, its, n, r, hl, e⟩ := I.lstM hH
  refine call_meets F.slot_list_append ⟨_, e, rfl⟩ F.entry_list_append (F.args_list_append_2 _ _) (PySem.list_append l its.toArray n u (by rw [List.size_toArray]; omega)) ⟨e, ?_⟩
  refine ⟨.non, _, I.lset (its' := its ++ [u]) hH e (by simp) (r.append (.cons ru .nil)) ?_, rfl, q⟩
  rw [List.length_append, List.length_singleton]
  omega






/-! ### list + list, list += list, list * int -/
/-- a list times an int (a negative one is nothing) -/
def rRep : R2 := fun x y H Q => ∃ l k xs, x = .ref l ∧ y = .int k ∧ H l = some (.lst xs) ∧ -(2 ^ 63) ≤ k ∧ k < 2 ^ 63 ∧ xs.length * k.toNat ≤ sizeLine ∧
  ∀ p, H p = none → Q (.ref p) (upd H p (.lst (List.replicate k.toNat xs).flatten))
theorem len_rep {α : Type} (xs : List α) (k : Nat) : (List.replicate k xs).flatten.length = k * xs.length := by
  induction k with
  | zero => simp
  | succ k ih => rw [List.replicate_succ, List.flatten_cons, List.length_append, ih, Nat.succ_mul, Nat.add_comm]
theorem op_rep : OpR X (binaryOp .Mult) rRep := by
  intro pins s σ H x y v u Q I rx ry h
  obtain ⟨l, k, xs, rfl, rfl, hH, h1, h2, hz, q⟩ := h
  cases rx
  obtain ⟨t, rfl⟩ := ry
  obtain ⟨z, its, n, r, hl, e⟩ := I.lstM hH
  have hlen : its.toArray.size * k.toNat ≤ sizeLine := by rw [List.size_toArray, ← hl]; exact hz
  have hcap : ¬ its.toArray.size * k.toNat > (2 ^ 63 - 1) / 8 := by
    have : (sizeLine : Nat) ≤ (2 ^ 63 - 1) / 8 := by decide
    omega
  have hfit : ¬ (!Builtin.List.listFitsIndex k) = true := by
    rw [fitsIndex_both h1 h2]
    exact Bool.false_ne_true
  have hlong : ¬ Builtin.List.listTooLong (its.toArray.size * k.toNat) = true := by
    rw [notLongL hlen]
    exact Bool.false_ne_true
  have hnew : List.foldl (fun x1 x2 => x1 ++ x2) #[] (List.replicate (if its.toArray.isEmpty = true then 0 else k.toNat) its.toArray) = (List.replicate k.toNat its).flatten.toArray := by
    have f0 : ∀ m : Nat, List.foldl (fun x1 x2 => x1 ++ x2) #[] (List.replicate m its.toArray) = (List.replicate m its).flatten.toArray := fun m => by
      have := foldl_rep its m []
      rw [List.nil_append] at this
      exact this
    rw [f0]
    cases its with
    | nil => simp
    | cons a r' => rw [if_neg (by simp)]
  refine wpAny_binaryOp_repeat_ref (T := "list") (U := "int") (by decide) ⟨_, e, rfl⟩ (fun s' => typeIs_int s' k t) noFill_list_mul F.fills_int_mul F.slot_int_rmul repeat_list F.slot_int_index.lookup
    (call_meets F.slot_int_rmul (typeIs_int s k t) F.entry_int_rmul (F.args_int_rmul_2 _ _) (int___rmul___int_list k t l its.toArray n)
      ⟨e, rfl, ⟨_, e, rfl⟩, call_meets F.slot_list_mul ⟨_, e, rfl⟩ F.entry_list_mul (F.args_list_mul_2 _ _) (AutoListH.list___mul___list_int_3 l its.toArray n k t hfit hcap hlong) ⟨e, ?_⟩⟩)
  rw [hnew]
  exact ⟨.ref _, _, I.lnew (t' := s.toks) (r.rep k.toNat) (by rw [len_rep, Nat.mul_comm]; exact hz), rfl, q _ I.fresh⟩

/-! ### del xs[i] -/
end

/-! ### xs[a:b] = ys -/
section
variable {prog : Program} {w : World} {A : Around} {E : Value → Shared → Prop} {s : Shared}
set_option maxRecDepth 100000 in
end

section
variable {X : Cx}
end
end L2

namespace L2
open PySem PySem.Spec PyProof.Rows

theorem Vals.ints : ∀ {ns : List Int} {us : List Value}, Vals (ns.map V.int) us → IntsAre us ns
  | [], us, h => by
    rw [List.map_nil] at h
    cases h
    exact IntsAre.nil
  | n :: ns, us, h => by
    rw [List.map_cons] at h
    cases h with
    | cons r t =>
      obtain ⟨k, rfl⟩ := r
      exact IntsAre.cons n k (Vals.ints t)
theorem Vals.strs : ∀ {xs : List Str} {us : List Value}, Vals (xs.map V.str) us → StrsAre us xs
  | [], us, h => by
    rw [List.map_nil] at h
    cases h
    exact StrsAre.nil
  | x :: xs, us, h => by
    rw [List.map_cons] at h
    cases h with
    | cons r t =>
      obtain ⟨k, rfl⟩ := r
      exact StrsAre.cons x k (Vals.strs t)
theorem Vals.ref1 {a : Addr} {us : List Value} (r : Vals [V.ref a] us) : us = [Value.ref a] := by
  cases r with
  | cons r t =>
    cases t
    cases r
    rfl

/-! ### the library's walks over a list of ints, kept objects alone -/
section
variable {prog : Program} {w : World} {A : Around} {E : Value → Shared → Prop} {s : Shared} {l : Addr} {its : List Value} {ns : List Int} {Q : Value → Shared → Prop}
theorem max_raw (hh : A.handled = none) (hl : s.heap.IsList l its.toArray) (hi : IntsAre its ns) (hne : 0 < ns.length)
    (h : ∀ h' tk M t', (∀ b o, s.heap.get? b = some o → h'.get? b = some o) → M ∈ ns → (∀ a, a ∈ ns → a ≤ M) → Q (.int M t') { s with heap := h', toks := tk }) : wpAny (model prog w) A (call (.builtin "max") [.ref l]) Q E s := by
  obtain ⟨xs, e⟩ := hi.allInts.items
  have hn : numsOf (intItems xs).toList = ns := by rw [← e]; exact hi.numsOf
  rw [nums_intItems] at hn
  subst hn
  rw [e] at hl
  have hsz : 0 < xs.size := by simpa using hne
  refine PySem.max_intList hh hl hsz fun v h' tk hv hk => ?_
  obtain ⟨t, rfl⟩ := intItems_at hv
  obtain ⟨h1, h2⟩ := argBest_gt (numAt xs) (xs.size - 1)
  refine h h' tk _ t hk ?_ fun a ha => ?_
  · rw [numAt_eq]; exact PySem.getD_mem (by rw [List.length_map, Array.length_toList]; omega)
  · obtain ⟨j, hj, rfl⟩ := mem_getD ha
    rw [List.length_map, Array.length_toList] at hj
    rw [← numAt_eq]; exact h2 j (by omega)
end

/-! ### the calls, by values (CallR of 03t; MtR of 06l) -/
section
variable {X : Cx}
/-- sum(xs) of a list of ints -/
def rSum (K : PySem.W.Frag) : List V → Hp → VK → Prop := fun vs H Q => ∃ (a : Addr) (ns : List Int), vs = [V.ref a] ∧ SqL K H a (ns.map V.int) ∧ Q (.int ns.sum) H
/-- max(xs), min(xs) of a list of ints -/
def rMax (K : PySem.W.Frag) : List V → Hp → VK → Prop := fun vs H Q => ∃ (a : Addr) (ns : List Int), vs = [V.ref a] ∧ SqL K H a (ns.map V.int) ∧ 0 < ns.length ∧ ∀ m, m ∈ ns → (∀ y, y ∈ ns → y ≤ m) → Q (.int m) H
def rMin (K : PySem.W.Frag) : List V → Hp → VK → Prop := fun vs H Q => ∃ (a : Addr) (ns : List Int), vs = [V.ref a] ∧ SqL K H a (ns.map V.int) ∧ 0 < ns.length ∧ ∀ m, m ∈ ns → (∀ y, y ∈ ns → m ≤ y) → Q (.int m) H
theorem cr_max (hc : X.calm = true) : CallR X (.builtin "max") (rMax X.K) := by
  intro pins s σ H vs us Q I r h
  obtain ⟨a, ns, rfl, hs, hne, q⟩ := h
  obtain ⟨its, rv, hl, _⟩ := I.list hs
  rw [Vals.ref1 r]
  exact max_raw (I.ok.hd hc) hl.isList rv.ints hne fun h' tk m t' hk h1 h2 => ⟨.int _, H, I.kept hk, ⟨_, rfl⟩, q m h1 h2⟩

/-! sorted, sort (fewer than 64 items: the library's own bound) -/
end

/-! ### list.index, flat items -/
section
variable {X : Cx}
end

/-! ### type(x) of an own instance; is, is not of a module's class -/
section
variable {X : Cx}
end

/-! ### any(xs), all(xs) of a list of bools -/
section
variable {X : Cx}
end

/-! ### == and != of data at any depth: none, bools, ints, texts, lists, tuples -/
mutual
inductive Dp (K : PySem.W.Frag) (H : Hp) : V → PyData → Prop
  | non : Dp K H .non .none
  | bl (b : Bool) : Dp K H (.bl b) (.bool b)
  | int (i : Int) : Dp K H (.int i) (.int i)
  | str (x : Str) : Dp K H (.str x) (.str x)
  | lst {a : Addr} {xs : List V} {ds : List PyData} : SqL K H a xs → DpAll K H xs ds → Dp K H (.ref a) (.list ds)
  | tup {a : Addr} {xs : List V} {ds : List PyData} : SqT K H a xs → DpAll K H xs ds → Dp K H (.ref a) (.tuple ds)
inductive DpAll (K : PySem.W.Frag) (H : Hp) : List V → List PyData → Prop
  | nil : DpAll K H [] []
  | cons {v : V} {vs : List V} {d : PyData} {ds : List PyData} : Dp K H v d → DpAll K H vs ds → DpAll K H (v :: vs) (d :: ds)
end
section
variable {X : Cx} {pins : List (Addr × Obj)} {σ : St} {H : Hp} {s : Shared}
mutual
theorem Dp.reads (I : Inv X pins σ H s) : ∀ (d : PyData) (v : V) (u : Value), Dp X.K H v d → RelV v u → ∃ as, Reads s.heap u d as
  | .none, _, _, h, r => by
    cases h
    cases r
    exact ⟨_, Reads.none⟩
  | .bool b, _, _, h, r => by
    cases h
    cases r
    exact ⟨_, Reads.bool b⟩
  | .int i, _, _, h, r => by
    cases h
    obtain ⟨t, rfl⟩ := r
    exact ⟨_, Reads.int i t⟩
  | .str x, _, _, h, r => by
    cases h
    obtain ⟨t, rfl⟩ := r
    exact ⟨_, Reads.str x t⟩
  | .list ds, _, _, h, r => by
    cases h with
    | lst hs ha =>
      cases r
      obtain ⟨its, rv, ⟨o, n, ho, hc, _, hd⟩, _⟩ := I.list hs
      obtain ⟨as, hr⟩ := Dp.readsAll I ds _ its ha rv
      exact ⟨_, Reads.list ho hc hd hr⟩
  | .tuple ds, _, _, h, r => by
    cases h with
    | tup hs ha =>
      cases r
      obtain ⟨its, rv, ⟨o, ho, hc, n, hd⟩, _⟩ := I.tuple hs
      obtain ⟨as, hr⟩ := Dp.readsAll I ds _ its ha rv
      exact ⟨_, Reads.tuple ho hc hd hr⟩
  | .dict _, _, _, h, _ => by cases h
theorem Dp.readsAll (I : Inv X pins σ H s) : ∀ (ds : List PyData) (vs : List V) (us : List Value), DpAll X.K H vs ds → Vals vs us → ∃ as, ReadsAll s.heap us ds as
  | [], _, _, h, r => by
    cases h
    cases r
    exact ⟨_, ReadsAll.nil⟩
  | d :: ds, _, _, h, r => by
    cases h with
    | cons h1 h2 =>
      cases r with
      | cons r1 r2 =>
        obtain ⟨as, q1⟩ := Dp.reads I d _ _ h1 r1
        obtain ⟨bs, q2⟩ := Dp.readsAll I ds _ _ h2 r2
        exact ⟨_, ReadsAll.cons q1 q2⟩
end
end
section
variable {X : Cx}
def rEqD (K : PySem.W.Frag) : R2 := fun x y H Q => ∃ d e, Dp K H x d ∧ Dp K H y e ∧ SeqAt.shaped d = true ∧ SeqAt.shaped e = true ∧ Q (.bl (PyData.eqv d e)) H
end
end L2

namespace L2
open PySem PySem.Spec PyProof.Rows
abbrev CellAt (h : Heap) (c : Addr) (v : Option Value) : Prop := h.IsCell c v
def relS (scope sc : Scope) : Scope :=
  { scope with names := scope.names.map fun (n, k) => if (k == .free && sc.kind == .function && sc.names.lookup n == some .cell) then (n, .cell) else (n, k) }

def cloFrom (cells : List (Str × Addr)) : List (Str × NameKind) → List (Str × Addr) → List (Str × Addr)
  | [], acc => acc
  | (n, k) :: r, acc => if k == .free then cloFrom cells r ((n, (cells.lookup n).getD 0) :: acc) else cloFrom cells r acc

theorem closure_loop (env : Env) (f : Str × NameKind → List (Str × Addr) → Sem (ForInStep (List (Str × Addr))))
    (hf : ∀ n k c, f (n, k) c = if k == .free then (do let a ← cellOf env n; pure (.yield ((n, a) :: c))) else pure (.yield c)) :
    ∀ (names : List (Str × NameKind)) (acc : List (Str × Addr)), (∀ y ∈ names, y.2 = .free → ∃ c, env.cells.lookup y.1 = some c) → forIn names acc f = pure (cloFrom env.cells names acc)
  | [], acc, _ => by rw [List.forIn_nil]; rfl
  | (n, k) :: r, acc, h => by
    rw [List.forIn_cons, hf]
    have ih := fun acc => closure_loop env f hf r acc fun y hy => h y (List.mem_cons_of_mem _ hy)
    unfold cloFrom
    by_cases hk : (k == NameKind.free) = true
    · rw [if_pos hk, if_pos hk]
      obtain ⟨c, hc⟩ := h (n, k) List.mem_cons_self (by simpa using hk)
      have e : cellOf env n = pure c := by unfold cellOf; rw [hc]
      rw [e]
      have e2 : (env.cells.lookup n).getD 0 = c := by rw [hc]; rfl
      rw [e2]
      exact ih _
    · rw [if_neg hk, if_neg hk]
      exact ih _
theorem closure_ok {scope : Scope} {env : Env} (h : ∀ y ∈ scope.names, y.2 = .free → ∃ c, env.cells.lookup y.1 = some c) : closureFor scope env = pure (cloFrom env.cells scope.names []) := by
  simp only [closureFor]
  rw [closure_loop env _ (fun n k c => rfl) scope.names [] h]
  rfl

theorem mem_lookup {α : Type} : ∀ {l : List (Str × α)} {n : Str} {c : α}, (n, c) ∈ l → ∃ c', l.lookup n = some c'
  | (k, v) :: r, n, c, h => by
    rw [List.lookup_cons]
    cases hb : n == k with
    | true => exact ⟨_, rfl⟩
    | false =>
      rcases List.mem_cons.mp h with e | h
      · cases e; simp at hb
      · exact mem_lookup h

theorem cloFrom_mem {cells : List (Str × Addr)} : ∀ {names : List (Str × NameKind)} {acc : List (Str × Addr)} {n : Str} {c : Addr}, (n, c) ∈ cloFrom cells names acc → (n, c) ∈ acc ∨ ((n, .free) ∈ names ∧ c = (cells.lookup n).getD 0)
  | [], _, _, _, h => .inl h
  | (m, k) :: r, acc, n, c, h => by
    unfold cloFrom at h
    split at h
    · rename_i hk
      have hk : k = .free := by simpa using hk
      rcases cloFrom_mem h with h | ⟨h1, h2⟩
      · rcases List.mem_cons.mp h with e | h
        · cases e; exact .inr ⟨hk ▸ List.mem_cons_self, rfl⟩
        · exact .inl h
      · exact .inr ⟨List.mem_cons_of_mem _ h1, h2⟩
    · rcases cloFrom_mem h with h | ⟨h1, h2⟩
      · exact .inl h
      · exact .inr ⟨List.mem_cons_of_mem _ h1, h2⟩
theorem cloFrom_acc {cells : List (Str × Addr)} : ∀ {names : List (Str × NameKind)} {acc : List (Str × Addr)} {p : Str × Addr}, p ∈ acc → p ∈ cloFrom cells names acc
  | [], _, _, h => h
  | (m, k) :: r, acc, p, h => by
    unfold cloFrom
    split
    · exact cloFrom_acc (List.mem_cons_of_mem _ h)
    · exact cloFrom_acc h
theorem cloFrom_has {cells : List (Str × Addr)} : ∀ {names : List (Str × NameKind)} {acc : List (Str × Addr)} {n : Str}, (n, .free) ∈ names → (n, (cells.lookup n).getD 0) ∈ cloFrom cells names acc
  | (m, k) :: r, acc, n, h => by
    unfold cloFrom
    rcases List.mem_cons.mp h with e | h
    · cases e
      exact cloFrom_acc List.mem_cons_self
    · split
      · exact cloFrom_has h
      · exact cloFrom_has h

theorem cells_mem : ∀ {names : List (Str × NameKind)} {h : Heap} {acc : List (Str × Addr)} {x : Str} {c : Addr}, (x, c) ∈ cellsFrom h.objs.size names acc →
    (x, c) ∈ acc ∨ ((x, .cell) ∈ names ∧ h.objs.size ≤ c ∧ CellAt (pushCells h names) c none)
  | [], _, _, _, _, h => .inl h
  | (n, k) :: r, h, acc, x, c, hm => by
    unfold cellsFrom at hm
    unfold pushCells
    split at hm
    · rename_i hk
      rw [if_pos hk]
      have hk : k = .cell := by simpa using hk
      rw [← Heap.size_push h { cls := .type "cell", data := .cell none }] at hm
      rcases cells_mem hm with hm | ⟨h1, h2, h3⟩
      · rcases List.mem_cons.mp hm with e | hm
        · cases e
          exact .inr ⟨hk ▸ List.mem_cons_self, Nat.le_refl _, _, pushCells_keeps r _ _ _ (Heap.get?_push_size _ rfl), rfl⟩
        · exact .inl hm
      · rw [Heap.size_push] at h2
        exact .inr ⟨List.mem_cons_of_mem _ h1, Nat.le_of_succ_le h2, h3⟩
    · rename_i hk
      rw [if_neg hk]
      rcases cells_mem hm with hm | ⟨h1, h2, h3⟩
      · exact .inl hm
      · exact .inr ⟨List.mem_cons_of_mem _ h1, h2, h3⟩
theorem cells_acc : ∀ {names : List (Str × NameKind)} {n : Nat} {acc : List (Str × Addr)} {p : Str × Addr}, p ∈ acc → p ∈ cellsFrom n names acc
  | [], _, _, _, h => h
  | (m, k) :: r, n, acc, p, h => by
    unfold cellsFrom
    split
    · exact cells_acc (List.mem_cons_of_mem _ h)
    · exact cells_acc h
theorem cells_has : ∀ {names : List (Str × NameKind)} {n : Nat} {acc : List (Str × Addr)} {x : Str}, (x, .cell) ∈ names → ∃ c, (x, c) ∈ cellsFrom n names acc
  | (m, k) :: r, n, acc, x, h => by
    unfold cellsFrom
    rcases List.mem_cons.mp h with e | h
    · cases e
      exact ⟨n, cells_acc List.mem_cons_self⟩
    · split
      · exact cells_has h
      · exact cells_has h
theorem cells_inj : ∀ {names : List (Str × NameKind)} {h : Heap} {acc : List (Str × Addr)} {x y : Str} {c : Addr}, (∀ p ∈ acc, p.2 < h.objs.size) → (∀ x y c, (x, c) ∈ acc → (y, c) ∈ acc → x = y) →
    (x, c) ∈ cellsFrom h.objs.size names acc → (y, c) ∈ cellsFrom h.objs.size names acc → x = y
  | [], _, _, _, _, _, _, hi, h1, h2 => hi _ _ _ h1 h2
  | (n, k) :: r, h, acc, x, y, c, hl, hi, h1, h2 => by
    unfold cellsFrom at h1 h2
    split at h1
    · rename_i hk
      rw [if_pos hk] at h2
      rw [← Heap.size_push h { cls := .type "cell", data := .cell none }] at h1 h2
      refine cells_inj (h := h.push _) (fun p hp => ?_) (fun x y c a b => ?_) h1 h2
      · rw [Heap.size_push]
        rcases List.mem_cons.mp hp with rfl | hp
        · exact Nat.lt_succ_self _
        · exact Nat.lt_succ_of_lt (hl p hp)
      · rcases List.mem_cons.mp a with e | a <;> rcases List.mem_cons.mp b with e' | b
        · cases e; cases e'; rfl
        · cases e; exact absurd (hl _ b) (Nat.lt_irrefl _)
        · cases e'; exact absurd (hl _ a) (Nat.lt_irrefl _)
        · exact hi _ _ _ a b
    · rename_i hk
      rw [if_neg hk] at h2
      exact cells_inj hl hi h1 h2

theorem newEnv_comp {M : Model} {A : Around} {E : Value → Shared → Prop} {s : Shared} {scope : Scope} {globals : Addr} {closure : List (Str × Addr)} {qual : Str} {func : Option Addr} {code : Value} {around : Env} {builtins : Addr} {Q : Env → Shared → Prop}
    (h : Q (newEnv scope s.heap.objs.size globals (cellsFrom (s.heap.objs.size + 1) scope.names closure) qual func code (some around) builtins)
      { s with heap := pushCells (s.heap.push { cls := .type "dict", data := .dict #[] }) scope.names }) :
    wpAny M A (newFunctionEnv scope globals closure [] qual func code (some around) builtins) Q E s := by
  simp only [newFunctionEnv, Option.isSome_some, if_true]
  refine wpAny_bind (wpAny_alloc ?_)
  refine wpAny_bind (wpAny_layCells _ (fun n k c => rfl) scope.names closure _ _ ?_)
  rw [show ({ s with heap := s.heap.push { cls := .type "dict", data := .dict #[] } } : Shared).heap.objs.size = s.heap.objs.size + 1 from Heap.size_push ..]
  rw [List.forIn_nil]
  exact wpAny_bind (wpAny_pure (wpAny_pure h))

/-- every name of the written scope, in the scope that runs -/
theorem lookup_relS {sc : Scope} : ∀ {names : List (Str × NameKind)} {x : Str} {k : NameKind},
    (names.map fun (n, k) => if (k == NameKind.free && sc.kind == .function && sc.names.lookup n == some .cell) then (n, NameKind.cell) else (n, k)).lookup x = some k →
    ∃ k', names.lookup x = some k' ∧ (k = k' ∨ (k' = .free ∧ k = .cell))
  | [], _, _, h => by simp at h
  | (n, k₀) :: r, x, k, h => by
    have ih := @lookup_relS sc r x k
    have h' : List.lookup x ((if (k₀ == NameKind.free && sc.kind == .function && sc.names.lookup n == some .cell) = true then (n, NameKind.cell) else (n, k₀)) :: (r.map _)) = some k := h
    cases hx : x == n with
    | true =>
      simp only [List.lookup_cons, hx]
      by_cases hc : (k₀ == NameKind.free && sc.kind == .function && sc.names.lookup n == some .cell) = true
      · rw [if_pos hc] at h'
        simp only [List.lookup_cons, hx] at h'
        cases h'
        simp only [Bool.and_eq_true, beq_iff_eq] at hc
        exact ⟨k₀, rfl, .inr ⟨hc.1.1, rfl⟩⟩
      · rw [if_neg hc] at h'
        simp only [List.lookup_cons, hx] at h'
        cases h'
        exact ⟨_, rfl, .inl rfl⟩
    | false =>
      simp only [List.lookup_cons, hx]
      by_cases hc : (k₀ == NameKind.free && sc.kind == .function && sc.names.lookup n == some .cell) = true
      · rw [if_pos hc] at h'
        simp only [List.lookup_cons, hx] at h'
        exact ih h'
      · rw [if_neg hc] at h'
        simp only [List.lookup_cons, hx] at h'
        exact ih h'



/-- the names of a comprehension's block: its own (with their places in N), or captured -/
structure BlkOk (N : List Str) (sc scope : Scope) (own : List (Str × Nat)) : Prop where
  kind : scope.kind = .function
  uniq : ∀ y ∈ scope.names, scope.names.lookup y.1 = some y.2
  ix : ∀ p ∈ own, N[p.2]? = some p.1
  free : ∀ y ∈ scope.names, y.2 = .free → sc.names.lookup y.1 = some .cell ∨ sc.names.lookup y.1 = some .free
  own : ∀ y ∈ scope.names, y.2 = .local ∨ y.2 = .cell → y.1 ∈ own.map (·.1) ∨ y.1 ∉ N
/-- the slots of the block's own names forgotten -/
def wipe (σ : St) : List Nat → St
  | [] => σ
  | v :: vs => (wipe σ vs).set v none
theorem wipe_length (σ : St) : ∀ vs : List Nat, (wipe σ vs).length = σ.length
  | [] => rfl
  | v :: vs => by unfold wipe; rw [List.length_set, wipe_length σ vs]
theorem wipe_some {σ : St} {i : Nat} {x : V} : ∀ {vs : List Nat}, (wipe σ vs)[i]? = some (some x) → σ[i]? = some (some x) ∧ i ∉ vs
  | [], h => ⟨h, by simp⟩
  | v :: vs, h => by
    unfold wipe at h
    by_cases hi : v = i
    · subst hi
      by_cases hv : v < (wipe σ vs).length
      · rw [List.getElem?_set_self hv] at h; cases h
      · rw [List.getElem?_eq_none (by simpa using hv)] at h; cases h
    · rw [List.getElem?_set_ne hi] at h
      obtain ⟨h1, h2⟩ := wipe_some h
      exact ⟨h1, by simp only [List.mem_cons, not_or]; exact ⟨fun e => hi e.symm, h2⟩⟩

/-- the context of a block that starts at s, its iterator's objects at fp -/
abbrev Cx.blk (X : Cx) (s : Shared) (H : Hp) (scope : Scope) (cenv : Env) (fp : List Addr) : Cx := { X with s_0 := s, H_0 := H, env := cenv, outer := X.stack, ex := fp, fn := fun x => scope.names.lookup x == some .cell, pn := [], xe := fun _ _ => False }
section
variable {X : Cx} {pins : List (Addr × Obj)} {σ : St} {H : Hp} {s : Shared}
theorem block_start {scope : Scope} {own : List (Str × Nat)} {fp : List Addr} (I : Inv X pins σ H s) (ok : BlkOk X.N X.env.scope scope own) (hN : X.N.Nodup) (hfp : ∀ b ∈ fp, FpOk X pins H b ∧ b < s.heap.objs.size) :
    Inv (X.blk s H scope (compEnvC scope (cellsFrom (s.heap.objs.size + 1) scope.names (cloFrom X.env.cells scope.names [])) s.heap.objs.size X.env) fp) [] (wipe σ (own.map (·.2))) H { s with heap := pushCells (s.heap.push { cls := .type "dict", data := .dict #[] }) scope.names } := by
  have hfree : ∀ y ∈ scope.names, y.2 = .free → ∃ c, X.env.cells.lookup y.1 = some c := fun y hy e => by
    rcases ok.free y hy e with k | k
    · exact I.ok.has _ (.inl k)
    · exact I.ok.has _ (.inr k)
  generalize hcenv : compEnvC scope (cellsFrom (s.heap.objs.size + 1) scope.names (cloFrom X.env.cells scope.names [])) s.heap.objs.size X.env = cenv
  have kp : ∀ b o, s.heap.get? b = some o → (pushCells (s.heap.push { cls := .type "dict", data := .dict #[] }) scope.names).get? b = some o := fun b o e => pushCells_keeps _ _ _ _ (Heap.get?_push_of_some _ e)
  have hL : cenv.locals = s.heap.objs.size := by rw [← hcenv]; rfl
  have hcl : cenv.cells = cellsFrom (s.heap.objs.size + 1) scope.names (cloFrom X.env.cells scope.names []) := by rw [← hcenv]; rfl
  have hsc : cenv.scope = relS scope X.env.scope := by rw [← hcenv]; rfl
  rw [← Heap.size_push s.heap { cls := .type "dict", data := .dict #[] }] at hcl
  have cm : ∀ {y c}, (y, c) ∈ cloFrom X.env.cells scope.names [] → X.env.cells.lookup y = some c ∧ c < s.heap.objs.size := fun {y c} hm => by
    rcases cloFrom_mem hm with hm | ⟨h1, rfl⟩
    · cases hm
    · obtain ⟨c, hc⟩ := hfree _ h1 rfl
      rw [hc]
      obtain ⟨w, z⟩ := I.cell _ _ hc
      exact ⟨rfl, z.lt⟩
  have mem : ∀ {y c}, cenv.cells.lookup y = some c → (X.env.cells.lookup y = some c ∧ c < s.heap.objs.size) ∨ (s.heap.objs.size + 1 ≤ c ∧ CellAt (pushCells (s.heap.push { cls := .type "dict", data := .dict #[] }) scope.names) c none) := fun {y c} e => by
    rw [hcl] at e
    rcases cells_mem (PySem.mem_of_lookup e) with hm | ⟨_, h2, h3⟩
    · exact .inl (cm hm)
    · rw [Heap.size_push] at h2; exact .inr ⟨h2, h3⟩
  have look : ∀ {y}, scope.names.lookup y = some .free → ∃ c, cenv.cells.lookup y = some c ∧ X.env.cells.lookup y = some c := fun {y} hl => by
    have hy : (y, NameKind.free) ∈ scope.names := PySem.mem_of_lookup hl
    obtain ⟨c', e'⟩ := mem_lookup (cells_acc (names := scope.names) (n := (s.heap.push { cls := .type "dict", data := .dict #[] }).objs.size) (cloFrom_has (cells := X.env.cells) (acc := []) hy))
    rw [← hcl] at e'
    refine ⟨c', e', ?_⟩
    rw [hcl] at e'
    rcases cells_mem (PySem.mem_of_lookup e') with hm | ⟨h1, _, _⟩
    · exact (cm hm).1
    · have := ok.uniq _ h1
      rw [hl] at this; cases this
  have okB : (X.blk s H scope cenv fp).Ok := by
    refine ⟨I.ok.mod, by show cenv.scope.kind = _; rw [hsc]; exact ok.kind, by show cenv.globals = _; rw [← hcenv]; exact I.ok.glob, by show cenv.builtins = _; rw [← hcenv]; exact I.ok.blt, by show s.heap.objs.size ≤ cenv.locals; rw [hL]; exact Nat.le_refl _,
      fun y z c e1 e2 => ?_, fun y hy => ?_, fun y c z e => ?_, I.ok.hd, I.ok.frames, .inl rfl, fun b hb => ⟨?_, fun y c e z => ?_⟩, I.bs, Nat.le_trans I.ok.bsz I.sz, fun b o e hb => ?_, fun b hb z => ?_, I.stack, I.stkFree⟩
    · have e1 : cenv.cells.lookup y = some c := e1
      have e2 : cenv.cells.lookup z = some c := e2
      rw [hcl] at e1 e2
      refine cells_inj (fun p hp => ?_) (fun y z c a b => I.ok.inj y z c (cm a).1 (cm b).1) (PySem.mem_of_lookup e1) (PySem.mem_of_lookup e2)
      rw [Heap.size_push]
      exact Nat.lt_succ_of_lt (cm (y := p.1) (c := p.2) hp).2
    · show ∃ c, cenv.cells.lookup y = some c
      have key : ∀ k, cenv.kindOf y = some k → (k = .cell ∨ k = .free) → ∃ c, cenv.cells.lookup y = some c := fun k hk hk' => by
        unfold Env.kindOf at hk
        rw [hsc] at hk
        obtain ⟨k', e, r⟩ := lookup_relS hk
        have : k' = .cell ∨ k' = .free := by
          rcases r with rfl | ⟨rfl, _⟩
          · exact hk'
          · exact .inr rfl
        rcases this with rfl | rfl
        · obtain ⟨c, hm⟩ := cells_has (n := (s.heap.push { cls := .type "dict", data := .dict #[] }).objs.size) (acc := cloFrom X.env.cells scope.names []) (PySem.mem_of_lookup e)
          obtain ⟨c', e'⟩ := mem_lookup hm
          exact ⟨c', by rw [hcl]; exact e'⟩
        · obtain ⟨c, h1, _⟩ := look e
          exact ⟨c, h1⟩
      rcases hy with hy | hy
      · exact key _ hy (.inl rfl)
      · exact key _ hy (.inr rfl)
    · have z : (scope.names.lookup y == some NameKind.cell) = true := z
      have z : scope.names.lookup y = some .cell := by simpa using z
      have e : cenv.cells.lookup y = some c := e
      rw [hcl] at e
      rcases cells_mem (PySem.mem_of_lookup e) with hm | ⟨_, h2, _⟩
      · rcases cloFrom_mem hm with hm | ⟨h1, _⟩
        · cases hm
        · have q := ok.uniq _ h1
          rw [z] at q; cases q
      · rw [Heap.size_push] at h2
        exact Nat.le_of_succ_le h2
    · show b ≠ cenv.locals
      rw [hL]; exact Nat.ne_of_lt (hfp b hb).2
    · have e : cenv.cells.lookup y = some c := e
      rcases mem e with ⟨h1, _⟩ | ⟨h1, _⟩
      · exact (hfp b hb).1.2.2.2.2.1 y c h1 z
      · have h2 : s.heap.objs.size + 1 ≤ b := by rw [← z]; exact h1
        exact absurd (Nat.lt_of_lt_of_le (hfp b hb).2 (Nat.le_of_succ_le h2)) (Nat.lt_irrefl _)
    · rcases (hfp b hb).1.2.2.2.1 with z | z
      · exact I.ok.noex b o e z
      · exact absurd (Nat.lt_of_lt_of_le (Heap.lt_size e) (Nat.le_trans I.ok.bsz z)) (Nat.lt_irrefl _)
    · rcases List.mem_cons.mp (I.stkSub b z) with z | z
      · exact (hfp b hb).1.2.1 z
      · exact (hfp b hb).1.2.2.1 z
  refine ⟨okB, rfl, I.bare, Un.kept kp, ⟨fun _ => none, ?_, fun i y av e1 e2 e3 => ?_⟩, fun y c e => ?_, ?_, fun y c e => ?_, fun p hp => ?_, I.hok.kept kp, by rw [wipe_length]; exact I.len⟩
  · show Heap.Ns _ cenv.locals _
    rw [hL]
    exact Heap.Ns.keeps (Heap.Ns.new ..) fun b o e => pushCells_keeps _ _ _ _ e
  · obtain ⟨e2, hne⟩ := wipe_some e2
    have hfr : scope.names.lookup y = some .free ∧ (cenv.kindOf y = some .cell ∨ cenv.kindOf y = some .free) := by
      have key : ∀ k, cenv.scope.names.lookup y = some k → k = .local ∨ k = .cell ∨ k = .free → scope.names.lookup y = some .free ∧ (cenv.kindOf y = some .cell ∨ cenv.kindOf y = some .free) := fun k hk hk' => by
        have hk0 := hk
        rw [hsc] at hk
        obtain ⟨k', e, r⟩ := lookup_relS hk
        have no : ¬ (k' = .local ∨ k' = .cell) := fun hh => by
          rcases ok.own _ (PySem.mem_of_lookup e) hh with e' | e'
          · obtain ⟨p, hp, hpy⟩ := List.mem_map.mp e'
            have e3 := ok.ix p hp
            have : p.1 = y := hpy
            rw [this] at e3
            exact hne (List.mem_map.mpr ⟨p, hp, nodup_ix hN e3 e1⟩)
          · exact e' (List.mem_of_getElem? e1)
        rcases r with rfl | ⟨rfl, rfl⟩
        · rcases hk' with rfl | rfl | rfl
          · exact absurd (.inl rfl) no
          · exact absurd (.inr rfl) no
          · exact ⟨e, .inr hk0⟩
        · exact ⟨e, .inl hk0⟩
      have e3 : Vis cenv.scope y := e3
      rcases e3 with e3 | e3 | e3
      · exact key _ e3 (.inl rfl)
      · exact key _ e3 (.inr (.inl rfl))
      · exact key _ e3 (.inr (.inr rfl))
    obtain ⟨m, hn, hl⟩ := I.loc
    have hvis : Vis X.env.scope y := (ok.free _ (PySem.mem_of_lookup hfr.1) rfl).elim (fun k => .inr (.inl k)) (fun k => .inr (.inr k))
    obtain ⟨w, r, q⟩ := hl i y av e1 e2 hvis
    refine ⟨w, r, .inr ⟨hfr.2, ?_⟩⟩
    obtain ⟨c, h1, h2⟩ := look hfr.1
    rcases q with ⟨k, _⟩ | ⟨_, c', e', z⟩
    · have k : X.env.scope.names.lookup y = some .local := k
      rcases ok.free _ (PySem.mem_of_lookup hfr.1) rfl with k' | k' <;> rw [show X.env.scope.names.lookup y = _ from k'] at k <;> cases k
    · rw [h2] at e'; cases e'
      exact ⟨c, h1, z.keeps kp⟩
  · have e : cenv.cells.lookup y = some c := e
    rcases mem e with ⟨h1, _⟩ | ⟨_, z⟩
    · obtain ⟨w, z⟩ := I.cell y c h1
      exact ⟨w, z.keeps kp⟩
    · exact ⟨_, z⟩
  · show H cenv.locals = none
    rw [hL]; exact I.hok.fresh (Nat.le_refl _)
  · have e : cenv.cells.lookup y = some c := e
    rcases mem e with ⟨h1, _⟩ | ⟨h1, _⟩
    · exact I.freeC y c h1
    · exact I.hok.fresh (Nat.le_of_succ_le h1)
  · exact absurd (show p ∈ ([] : List (Addr × Obj)) ++ [] from hp) (by simp)

/-- an item appended to a tracked list -/
theorem app_ok {E : Value → Shared → Prop} {D : Addr} {xs : List V} {y : V} {v : Value} {Q : Value → Shared → Prop} (I : Inv X pins σ H s) (hD : H D = some (.lst xs)) (hz : xs.length < sizeLine) (r : RelV y v)
    (h : ∀ s', Inv X pins σ (upd H D (.lst (xs ++ [y]))) s' → Q .none s') : wpAny (model X.prog X.w) X.A (call (.builtin "list.append") [.ref D, v]) Q E s := by
  obtain ⟨hz', its, n, ri, e⟩ := I.hok D _ hD
  have hl := ri.length
  refine append_at (hsz := by rw [List.size_toArray]; omega) e fun h' sb ho' => ?_
  refine h { s with heap := h' } (I.write (t' := s.toks) (by rw [hD]; trivial) (.inl rfl) (fun b u hb q => (sb.2 b hb).trans q) ⟨_, ho'⟩ ⟨by rw [List.length_append]; exact hz, its ++ [v], n + 1, ri.append (.cons r .nil), ?_⟩)
  rw [ho']
  simp

/-- a clause's tests -/
def PTs (X : Cx) (ifs : List Expr) (t : TT) : Prop :=
  ∀ (pins : List (Addr × Obj)) (s : Shared) (σ : St) (H : Hp) (Q : Bool → Hp → Prop), Inv X pins σ H s → t σ H Q →
    wpAny (model X.prog X.w) X.A (forIn ifs true fun c r => if r = true then do let ok ← isTrue c X.env (eval c X.env); pure (ForInStep.yield ok) else pure (ForInStep.yield r)) (TP X pins σ Q) X.xe s
def tYes : TT := fun _ H Q => Q true H
theorem pts_nil : PTs X [] tYes := fun _ _ _ H _ I h => wpAny_tests_nil ⟨H, I, h⟩
end

theorem thnF {α : Type} {t : Sem α} {Q Q' : α → Shared → Prop} {M : Model} {A : Around} {E : Value → Shared → Prop} {s : Shared} (h : wpAny M A t Q (fun _ _ => False) s) (hQ : ∀ a s, Q a s → Q' a s) : wpAny M A t Q' E s := wpAny_mono h hQ fun _ _ z => False.elim z

/-- the loop of a list comprehension's block, the target of any form (codeAny_compLoop_tests asks a target that no tuple goes to; statement and proof follow it, PyProof/CompMap.lean:41-61, with the step letOwnedTupleGo kept) -/
theorem compLoop_any {prog : Program} {w : World} {A : Around} {R : Result → Shared → Prop} {s : Shared} {elt target iter : Expr} {ifs : List Expr} {scope : Scope} {pos : Pos} {it acc : Value} {env : Env} (I : Nat → Shared → Prop)
    (turn : ∀ n s, I n s → wpAny (model prog w) A (pyNext it) (fun r s₁ => match r with
      | none => R (.ok .next) s₁
      | some v => wpAny (model prog w) A (letOwnedTupleGo target it v) (fun _ s₁' => wpAny (model prog w) A (assign target env v) (fun _ s₂ =>
          wpAny (model prog w) A (forIn ifs true fun c r => if r = true then do let ok ← isTrue c env (eval c env); pure (ForInStep.yield ok) else pure (ForInStep.yield r)) (fun ok s₃ =>
            if ok = true then wpAny (model prog w) A (eval elt env) (fun x s₄ =>
              wpAny (model prog w) A (call (.builtin "list.append") [acc, x]) (fun _ s₅ => ∃ m, m < n ∧ I m s₅) (notedBy (model prog w) A env fun e s' => R (.error e) s') s₄) (notedBy (model prog w) A env fun e s' => R (.error e) s') s₃
            else ∃ m, m < n ∧ I m s₃) (notedBy (model prog w) A env fun e s' => R (.error e) s') s₂) (notedBy (model prog w) A env fun e s' => R (.error e) s') s₁') (notedBy (model prog w) A env fun e s' => R (.error e) s') s₁) (notedBy (model prog w) A env fun e s' => R (.error e) s') s)
    (n : Nat) (h : I n s) :
    codeAny (model prog w) A (.compLoop (.ListComp elt [⟨target, iter, ifs, 0⟩] scope pos) 0 it acc env) R s := by
  refine codeAny_loop rfl I (fun n s hI => ?_) n h
  show wpAny _ A ((compTurn (.ListComp elt [⟨target, iter, ifs, 0⟩] scope pos) 0 it acc env).onRaise (fun x => do noteFrame x env; theTreesLotGoes x)) _ _ s
  refine wpAny_noted ?_
  rw [compTurn_list]
  refine wpAny_bind (wpAny_standAt (wpAny_bind (wpAny_mono (turn n s hI) (fun r s₁ h₁ => ?_) fun _ _ h' => h')))
  cases r with
  | none => exact wpAny_pure h₁
  | some v =>
    refine wpAny_bind (wpAny_mono h₁ (fun _ s₁' h₁' => ?_) fun _ _ h' => h')
    refine wpAny_bind (wpAny_mono h₁' (fun _ s₂ h₂ => wpAny_bind (wpAny_mono h₂ (fun ok s₃ h₃ => ?_) fun _ _ h' => h')) fun _ _ h' => h')
    cases ok with
    | false => exact wpAny_pure ⟨rfl, h₃⟩
    | true =>
      exact wpAny_bind (wpAny_bind (wpAny_mono h₃ (fun x s₄ h₄ => wpAny_bind (wpAny_mono h₄ (fun _ s₅ h₅ => wpAny_pure (wpAny_pure ⟨rfl, h₅⟩)) fun _ _ h' => h')) fun _ _ h' => h'))

section
variable {X : Cx}
/-- [elt for target in iter if ..]: D the new list; W by the turn and a measure, Nx what a turn is to reach -/
def tLc (wi : TI) (g : TG) (tt : TT) (te : TE) (vs : List Nat) : TE := fun σ H Q => wi σ H fun J H1 => ∀ D, H1 D = none → ∃ W : Nat → Nat → Hp → Prop, (∃ m, W 0 m (upd H1 D (.lst []))) ∧ ∀ i m H, W i m H →
  (J.stop i H ∧ Q (.ref D) H) ∨ (J.go i H ∧ ∃ Nx : Hp → Prop, (∀ H', Nx H' → ∃ m', m' < m ∧ W (i + 1) m' H') ∧ ∀ x H', J.yld i H x H' → g x (wipe σ vs) H' fun σ2 H2 => wipe σ2 vs = wipe σ vs ∧ tt σ2 H2 fun b H3 =>
    if b = true then te σ2 H3 fun y H4 => ∃ acc, H4 D = some (.lst acc) ∧ acc.length < sizeLine ∧ Nx (upd H4 D (.lst (acc ++ [y]))) else Nx H3)
theorem lc_core {pins : List (Addr × Obj)} {s : Shared} {σ : St} {H : Hp} {Q : VK} {elt tg iter : Expr} {ifs : List Expr} {scope : Scope} {own : List (Str × Nat)} {pos pos' : Pos} {wi : TI} {g : TG} {tt : TT} {te : TE} {use : Option (Value → Sem Unit)} {Qf : Value → Shared → Prop}
    (hc : X.calm = true) (hN : X.N.Nodup) (I : Inv X pins σ H s) (hi : PI X tg iter wi) (ok : BlkOk X.N X.env.scope scope own)
    (hg : ∀ (s : Shared) (H : Hp) (C : Addr) (cl : List (Str × Addr)) (fp : List Addr), PG (X.blk s H scope (compEnvC scope cl C X.env) fp) tg g) (ht : ∀ (s : Shared) (H : Hp) (C : Addr) (cl : List (Str × Addr)) (fp : List Addr), PTs (X.blk s H scope (compEnvC scope cl C X.env) fp) ifs tt)
    (he : ∀ (s : Shared) (H : Hp) (C : Addr) (cl : List (Str × Addr)) (fp : List Addr), PE (X.blk s H scope (compEnvC scope cl C X.env) fp) elt te) (hs : ∀ x, foldedSetIterable iter X.env x = pure x)
    (h : tLc wi g tt te (own.map (·.2)) σ H Q)
    (hRR : ∀ D C s' m H', Inv X pins σ H' s' → Q (.ref D) H' → s'.heap.Ns C m → FpOk X pins H' C → compPost (model X.prog X.w) X.A X.xe use Qf (.ref D) C (.ok .next) s') :
    wpAny (model X.prog X.w) X.A (comprehension (.ListComp elt [⟨tg, iter, ifs, 0⟩] scope pos) scope X.env pos' (newList []) false (eval iter X.env) use) Qf X.xe s := by
  have hfree : ∀ y ∈ scope.names, y.2 = .free → ∃ c, X.env.cells.lookup y.1 = some c := fun y hy e => by
    rcases ok.free y hy e with k | k
    · exact I.ok.has _ (.inl k)
    · exact I.ok.has _ (.inr k)
  refine wpAny_comprehension_free (use := use) rfl hs (closure_ok hfree) ok.kind (fun y hy e => by rw [ok.uniq y hy, e])
    (thn (hi pins s σ H _ I h) fun xv s1 hx => thn hx fun itv s2 h2 => ?_)
  obtain ⟨it, fp, tn, J, H2, e, I2, T, st2, f2, q⟩ := h2
  subst e
  refine wpAny_newObj_type (newEnv_comp ?_) (by show 0 ≤ sizeLine; decide)
  generalize hD : s2.heap.objs.size = D
  have hDn : H2 D = none := I2.hok.fresh (Nat.le_of_eq hD)
  obtain ⟨W, ⟨m0, w0⟩, turn⟩ := q D hDn
  -- the new list
  generalize hs3 : ({ s2 with heap := s2.heap.push { cls := .type "list", data := .seq ([] : List Value).toArray } } : Shared) = s3
  have I3 : Inv X pins σ (upd H2 D (.lst [])) s3 := by
    rw [← hs3]
    refine I2.laid (t' := s2.toks) (fun b o e => Heap.get?_push_of_some _ e) (Nat.le_of_eq hD) ⟨Nat.zero_le _, [], 0, .nil, ?_⟩
    rw [← hD]
    exact Heap.get?_push_size _ rfl
  have h3 : s3.heap = s2.heap.push { cls := .type "list", data := .seq ([] : List Value).toArray } := by rw [← hs3]
  have sz : ∀ b ∈ fp, b < s2.heap.objs.size := fun b hb => by
    obtain ⟨o, e, _⟩ := T.obj _ _ st2 b hb
    exact Heap.lt_size e
  have f3 : ∀ b ∈ fp, FpOk X pins (upd H2 D (.lst [])) b ∧ b < s3.heap.objs.size := fun b hb => by
    have hlt := sz b hb
    refine ⟨⟨?_, (f2 b hb).2⟩, by rw [h3, Heap.size_push]; exact Nat.lt_succ_of_lt hlt⟩
    rw [upd_ne (by rw [← hD]; exact Nat.ne_of_lt hlt)]
    exact (f2 b hb).1
  have st3 : tn 0 s3.heap := T.keep _ _ _ st2 fun b _ o e => by rw [h3]; exact Heap.get?_push_of_some _ e
  have I4 := block_start I3 ok hN f3
  have pg := hg s3 (upd H2 D (.lst [])) s3.heap.objs.size (cellsFrom (s3.heap.objs.size + 1) scope.names (cloFrom X.env.cells scope.names [])) fp
  have pt := ht s3 (upd H2 D (.lst [])) s3.heap.objs.size (cellsFrom (s3.heap.objs.size + 1) scope.names (cloFrom X.env.cells scope.names [])) fp
  have pe := he s3 (upd H2 D (.lst [])) s3.heap.objs.size (cellsFrom (s3.heap.objs.size + 1) scope.names (cloFrom X.env.cells scope.names [])) fp
  show codeAny _ _ (.compStart (.ListComp elt [⟨tg, iter, ifs, 0⟩] scope pos) 0 (.ref it) (.ref D) (compEnvC scope (cellsFrom (s3.heap.objs.size + 1) scope.names (cloFrom X.env.cells scope.names [])) s3.heap.objs.size X.env)) (compPost (model X.prog X.w) X.A X.xe use Qf (.ref D) s3.heap.objs.size) { s3 with heap := pushCells (s3.heap.push { cls := .type "dict", data := .dict #[] }) scope.names }
  have nfp : ∀ b ∈ fp, (upd H2 D (.lst [])) b = none := fun b hb => (f3 b hb).1.1
  generalize hce : compEnvC scope (cellsFrom (s3.heap.objs.size + 1) scope.names (cloFrom X.env.cells scope.names [])) s3.heap.objs.size X.env = ce at I4 pg pt pe ⊢
  have cL : ce.locals = s3.heap.objs.size := by subst hce; rfl
  generalize hH3 : upd H2 D (.lst []) = H3 at I3 I4 pg pt pe w0 nfp f3
  generalize hs4 : ({ s3 with heap := pushCells (s3.heap.push { cls := .type "dict", data := .dict #[] }) scope.names } : Shared) = s4 at I4 ⊢
  have st4 : tn 0 s4.heap := T.keep _ _ _ st3 fun b _ o e => by rw [← hs4]; exact pushCells_keeps _ _ _ _ (Heap.get?_push_of_some _ e)
  have stat : ∀ {σ' : St} {H' : Hp} {s' : Shared}, Inv (X.blk s3 H3 scope ce fp) [] σ' H' s' → (∀ b ∈ fp, H' b = none) → ∀ b ∈ fp, FpOk (X.blk s3 H3 scope ce fp) [] H' b := fun {σ' H' s'} I' hn b hb =>
    ⟨hn b hb, (I'.ok.exf b hb).1, I'.ok.exfs b hb, .inl hb, fun x c e => (I'.ok.exf b hb).2 x c e, fun p hp => absurd (show p ∈ ([] : List (Addr × Obj)) ++ [] from hp) (by simp)⟩
  have loop : codeAny (model X.prog X.w) X.A (.compLoop (.ListComp elt [⟨tg, iter, ifs, 0⟩] scope pos) 0 (.ref it) (.ref D) ce) (compPost (model X.prog X.w) X.A X.xe use Qf (.ref D) s3.heap.objs.size) s4 := by
    refine compLoop_any (fun n s' => ∃ i H', Inv (X.blk s3 H3 scope ce fp) [] (wipe σ (own.map (·.2))) H' s' ∧ tn i s'.heap ∧ (∀ b ∈ fp, H' b = none) ∧ W i n H') ?_ m0 ⟨0, H3, I4, st4, nfp, w0⟩
    rintro n s5 ⟨i, H5, I5, st5, n5, w5⟩
    rcases turn i n H5 w5 with ⟨stop, qq⟩ | ⟨go, Nx, hNx, step⟩
    · have td := T.done (X.blk s3 H3 scope ce fp) rfl rfl rfl hc i [] s5 _ H5 (fun _ _ => False) I5 (stat I5 n5) st5 stop
      refine thnF td fun r s6 ⟨hr, I6⟩ => ?_
      subst hr
      -- back in the def's context
      have I7 : Inv X pins σ H5 s6 := I3.call' (ch := fp) I6.os I6.base I6.hok I6.bare fun b hb => ⟨(f3 b hb).1.2.2.2.1, (f3 b hb).1.2.1, (f3 b hb).1.2.2.2.2.1, (f3 b hb).1.2.2.2.2.2⟩
      have nC : H5 s3.heap.objs.size = none := by
        have z : H5 ce.locals = none := I6.free
        rw [cL] at z
        exact z
      obtain ⟨m, hn, _⟩ := I6.loc
      have hn : s6.heap.Ns ce.locals m := hn
      rw [cL] at hn
      exact hRR D s3.heap.objs.size s6 m H5 I7 qq hn (I3.fpOk (Nat.le_refl _) nC)
    · have ti := T.item (X.blk s3 H3 scope ce fp) rfl rfl rfl hc i [] s5 _ H5 (fun _ _ => False) I5 (stat I5 n5) st5 go
      refine thnF ti fun r s6 ⟨u, hr, h6⟩ => ?_
      subst hr
      refine thnF h6 fun _ s7 ⟨x, H7, I7, r7, y7, st7, n7⟩ => ?_
      have I7' := I7.pinned (stat I7 n7) (T.obj _ _ st7)
      refine thnF (pg _ s7 _ H7 x u _ I7' r7 (step x H7 y7)) fun _ s8 ⟨σ8, H8, I8, hw8, q8⟩ => ?_
      refine thnF (pt _ s8 σ8 H8 _ I8 q8) fun b s9 ⟨H9, I9, q9⟩ => ?_
      -- the turn's end
      have fin : ∀ {s' : Shared} {H' : Hp}, Inv (X.blk s3 H3 scope ce fp) ([] ++ pinsAt fp s7.heap) σ8 H' s' → Nx H' → ∃ m, m < n ∧ ∃ i H', Inv (X.blk s3 H3 scope ce fp) [] (wipe σ (own.map (·.2))) H' s' ∧ tn i s'.heap ∧ (∀ b ∈ fp, H' b = none) ∧ W i m H' := fun {s' H'} I' nx => by
        obtain ⟨m', hm, w'⟩ := hNx H' nx
        have pin' : ∀ b ∈ fp, ∀ o, s7.heap.get? b = some o → s'.heap.get? b = some o ∧ H' b = none := fun b hb o e =>
          let z := I'.pin (b, o) (List.mem_append_right _ (List.mem_append_right _ (mem_pinsAt hb e)))
          ⟨z.1, z.2.1⟩
        have hl : (wipe σ (own.map (·.2))).length = σ8.length := by rw [← hw8, wipe_length]
        refine ⟨m', hm, i + 1, H', (I'.unpinned (pins := [])).weak hl (fun j v e => ?_), T.keep _ _ _ st7 fun b hb o e => (pin' b hb o e).1, fun b hb => ?_, w'⟩
        · rw [← hw8] at e
          exact (wipe_some e).1
        · obtain ⟨o, e, _⟩ := T.obj _ _ st7 b hb
          exact (pin' b hb o e).2
      cases b with
      | false =>
        simp only [Bool.false_eq_true, if_false] at q9 ⊢
        exact fin I9 q9
      | true =>
        simp only [if_true] at q9 ⊢
        refine thnF (pe _ s9 σ8 H9 _ I9 q9) fun z s10 ⟨yv, H10, I10, r10, acc, hD10, hz10, nx⟩ => ?_
        exact app_ok (X := X.blk s3 H3 scope ce fp) I10 hD10 hz10 r10 fun s11 I11 => fin I11 nx
  exact codeAny_compStart_list loop (T.self X.A 0 _ _ _ st4 loop)
/-- as a value -/
theorem pe_lc {elt tg iter : Expr} {ifs : List Expr} {scope : Scope} {own : List (Str × Nat)} {pos : Pos} {wi : TI} {g : TG} {tt : TT} {te : TE} (hc : X.calm = true) (hN : X.N.Nodup) (hi : PI X tg iter wi) (ok : BlkOk X.N X.env.scope scope own)
    (hg : ∀ (s : Shared) (H : Hp) (C : Addr) (cl : List (Str × Addr)) (fp : List Addr), PG (X.blk s H scope (compEnvC scope cl C X.env) fp) tg g) (ht : ∀ (s : Shared) (H : Hp) (C : Addr) (cl : List (Str × Addr)) (fp : List Addr), PTs (X.blk s H scope (compEnvC scope cl C X.env) fp) ifs tt)
    (he : ∀ (s : Shared) (H : Hp) (C : Addr) (cl : List (Str × Addr)) (fp : List Addr), PE (X.blk s H scope (compEnvC scope cl C X.env) fp) elt te) (hs : ∀ x, foldedSetIterable iter X.env x = pure x := by intro _; rfl) :
    PE X (.ListComp elt [⟨tg, iter, ifs, 0⟩] scope pos) (tLc wi g tt te (own.map (·.2))) := by
  intro pins s σ H Q I h
  rw [eval_ListComp]
  refine lc_core hc hN I hi ok hg ht he hs h fun D C s' m H' I' q hn f => ⟨m, hn, fun h'' sb => ?_⟩
  obtain ⟨f0, f1, f2, f3, f4, f5⟩ := f
  exact ⟨.ref D, H', I'.turned (t' := s'.toks) (fun b o hb e => (sb.2 b hb).trans e) f0 f1 f3 f4 f5, rfl, q⟩
end

/-! ### the forms one uses -/
/-- over a range: Pv by the turn and the heap (the new list at D within) -/
theorem lc_range {lo : Int} {n : Nat} {g : TG} {tt : TT} {te : TE} {vs : List Nat} {σ : St} {H1 : Hp} {D : Addr} {Qd : Hp → Prop} (Pv : Nat → Hp → Prop) (h0 : Pv 0 (upd H1 D (.lst [])))
    (hs : ∀ i H, i < n → Pv i H → g (.int (lo + i)) (wipe σ vs) H fun σ2 H2 => wipe σ2 vs = wipe σ vs ∧ tt σ2 H2 fun b H3 =>
      if b = true then te σ2 H3 fun y H4 => ∃ acc, H4 D = some (.lst acc) ∧ acc.length < sizeLine ∧ Pv (i + 1) (upd H4 D (.lst (acc ++ [y]))) else Pv (i + 1) H3) (hd : ∀ H, Pv n H → Qd H) :
    ∃ W : Nat → Nat → Hp → Prop, (∃ m, W 0 m (upd H1 D (.lst []))) ∧ ∀ i m H, W i m H →
      ((Itr lo n).stop i H ∧ Qd H) ∨ ((Itr lo n).go i H ∧ ∃ Nx : Hp → Prop, (∀ H', Nx H' → ∃ m', m' < m ∧ W (i + 1) m' H') ∧ ∀ x H', (Itr lo n).yld i H x H' → g x (wipe σ vs) H' fun σ2 H2 => wipe σ2 vs = wipe σ vs ∧ tt σ2 H2 fun b H3 =>
        if b = true then te σ2 H3 fun y H4 => ∃ acc, H4 D = some (.lst acc) ∧ acc.length < sizeLine ∧ Nx (upd H4 D (.lst (acc ++ [y]))) else Nx H3) := by
  refine ⟨fun i m H => m = n - i ∧ i ≤ n ∧ Pv i H, ⟨n, by simp, Nat.zero_le _, h0⟩, ?_⟩
  rintro i m H ⟨rfl, hi, p⟩
  by_cases hlt : i < n
  · refine .inr ⟨hlt, Pv (i + 1), fun H' p' => ⟨n - (i + 1), by omega, rfl, hlt, p'⟩, fun x H' y => ?_⟩
    obtain ⟨e, y⟩ := y
    subst e y
    exact hs i _ hlt p
  · have e : i = n := by omega
    subst e
    exact .inl ⟨Nat.le_refl _, hd H p⟩
/-- over a list that the block leaves as it is -/
theorem lc_list {K : PySem.W.Frag} {a : Addr} {xs : List V} {g : TG} {tt : TT} {te : TE} {vs : List Nat} {σ : St} {H1 : Hp} {D : Addr} {Qd : Hp → Prop} (Pv : Nat → Hp → Prop) (h0 : Pv 0 (upd H1 D (.lst []))) (hl : ∀ i H, i ≤ xs.length → Pv i H → SqL K H a xs)
    (hs : ∀ i x H, xs[i]? = some x → Pv i H → g x (wipe σ vs) H fun σ2 H2 => wipe σ2 vs = wipe σ vs ∧ tt σ2 H2 fun b H3 =>
      if b = true then te σ2 H3 fun y H4 => ∃ acc, H4 D = some (.lst acc) ∧ acc.length < sizeLine ∧ Pv (i + 1) (upd H4 D (.lst (acc ++ [y]))) else Pv (i + 1) H3) (hd : ∀ H, Pv xs.length H → Qd H) :
    ∃ W : Nat → Nat → Hp → Prop, (∃ m, W 0 m (upd H1 D (.lst []))) ∧ ∀ i m H, W i m H →
      ((Itl K a).stop i H ∧ Qd H) ∨ ((Itl K a).go i H ∧ ∃ Nx : Hp → Prop, (∀ H', Nx H' → ∃ m', m' < m ∧ W (i + 1) m' H') ∧ ∀ x H', (Itl K a).yld i H x H' → g x (wipe σ vs) H' fun σ2 H2 => wipe σ2 vs = wipe σ vs ∧ tt σ2 H2 fun b H3 =>
        if b = true then te σ2 H3 fun y H4 => ∃ acc, H4 D = some (.lst acc) ∧ acc.length < sizeLine ∧ Nx (upd H4 D (.lst (acc ++ [y]))) else Nx H3) := by
  refine ⟨fun i m H => m = xs.length - i ∧ i ≤ xs.length ∧ Pv i H, ⟨xs.length, by simp, Nat.zero_le _, h0⟩, ?_⟩
  rintro i m H ⟨rfl, hi, p⟩
  have q := hl i H hi p
  by_cases hlt : i < xs.length
  · refine .inr ⟨⟨xs, xs[i], q, by simp [hlt]⟩, Pv (i + 1), fun H' p' => ⟨xs.length - (i + 1), by omega, rfl, hlt, p'⟩, fun x H' y => ?_⟩
    obtain ⟨e, y⟩ := y
    subst e
    exact hs i x _ (y xs q) p
  · have e : i = xs.length := by omega
    subst e
    exact .inl ⟨⟨xs, q, Nat.le_refl _⟩, hd H p⟩
def blkC (N : List Str) (sc scope : Scope) (own : List (Str × Nat)) : Bool :=
  (match scope.kind with | .function => true | _ => false) && (scope.names.all fun y => decide (scope.names.lookup y.1 = some y.2)) && (own.all fun p => decide (N[p.2]? = some p.1)) &&
    (scope.names.all fun y => match y.2 with
      | .free => (match sc.names.lookup y.1 with | some .cell => true | some .free => true | _ => false)
      | .local => decide (y.1 ∈ own.map (·.1)) || decide (y.1 ∉ N)
      | .cell => decide (y.1 ∈ own.map (·.1)) || decide (y.1 ∉ N)
      | _ => true)
theorem blkOk_by {N : List Str} {sc scope : Scope} {own : List (Str × Nat)} (h : blkC N sc scope own = true) : BlkOk N sc scope own := by
  unfold blkC at h
  simp only [Bool.and_eq_true, List.all_eq_true, decide_eq_true_eq] at h
  obtain ⟨⟨⟨h1, h2⟩, h3⟩, h4⟩ := h
  refine ⟨?_, h2, h3, fun y hy e => ?_, fun y hy e => ?_⟩
  · split at h1
    · assumption
    · cases h1
  · have q := h4 y hy
    simp only [e] at q
    split at q <;> first | exact .inl (by assumption) | exact .inr (by assumption) | cases q
  · have q := h4 y hy
    rcases e with e | e <;> (simp only [e, Bool.or_eq_true, decide_eq_true_eq] at q; exact q)
end L2

namespace L2
open PySem PySem.Spec PyProof.Rows


section
variable {prog : Program} {w : World} {A : Around} {R : Result → Shared → Prop} {s : Shared} {elt t0 i0 t1 i1 : Expr} {ifs0 ifs1 : List Expr} {scope : Scope} {pos : Pos} {it acc : Value} {env : Env}
end

section
variable {X : Cx}
end
end L2

namespace L2
open PySem PySem.Spec PyProof.Rows

/-! ### lists of pairs as tables -/
section
variable {κ : Type} [DecidableEq κ]
def valV (kvs : List (κ × V)) (k : κ) : Option V := (kvs.find? fun kv => decide (kv.1 = k)).map (·.2)
/-- in its place, or at the end -/
def putK (kvs : List (κ × V)) (k : κ) (v : V) : List (κ × V) :=
  if (kvs.any fun kv => decide (kv.1 = k)) = true then kvs.map (fun kv => if kv.1 = k then (kv.1, v) else kv) else kvs ++ [(k, v)]
def dropK (kvs : List (κ × V)) (k : κ) : List (κ × V) := kvs.filter fun kv => decide (kv.1 ≠ k)

theorem valV_pos {p : κ × V} {r : List (κ × V)} {k : κ} (e : p.1 = k) : valV (p :: r) k = some p.2 := by simp [valV, List.find?_cons, e]
theorem valV_neg {p : κ × V} {r : List (κ × V)} {k : κ} (e : ¬ p.1 = k) : valV (p :: r) k = valV r k := by simp [valV, List.find?_cons, e]
theorem valV_any (k : κ) : ∀ kvs : List (κ × V), (kvs.any fun kv => decide (kv.1 = k)) = (valV kvs k).isSome
  | [] => rfl
  | p :: r => by
    rw [List.any_cons]
    by_cases e : p.1 = k
    · simp only [valV_pos e, decide_eq_true e, Bool.true_or, Option.isSome_some]
    · rw [valV_neg e, decide_eq_false e, Bool.false_or]; exact valV_any k r

theorem RelO.isSome_eq {o : Option V} {u : Option Value} (r : RelO o u) : o.isSome = u.isSome := by
  cases o with
  | none => cases u with
    | none => rfl
    | some _ => exact (show False from r).elim
  | some _ => cases u with
    | none => exact (show False from r).elim
    | some _ => rfl
theorem RelO.getD {o : Option V} {u : Option Value} {d : V} {d' : Value} (r : RelO o u) (rd : RelV d d') : RelV (o.getD d) (u.getD d') := by
  cases o with
  | none => cases u with
    | none => exact rd
    | some _ => exact (show False from r).elim
  | some _ => cases u with
    | none => exact (show False from r).elim
    | some _ => exact r

/-- raw tables of the same keys -/
theorem KV.val {kvs : List (κ × V)} {vs : List (κ × Value)} (r : KV kvs vs) (k : κ) : RelO (valV kvs k) (valueAt vs k) := by
  unfold KV at r
  induction r with
  | nil => exact True.intro
  | @cons p q ps qs h t ih =>
    obtain ⟨h1, h2⟩ := h
    by_cases e : p.1 = k
    · have e' : q.1 = k := h1.symm.trans e
      have b : valueAt (q :: qs) k = some q.2 := by simp [valueAt, List.find?_cons, e']
      rw [valV_pos e, b]; exact h2
    · have e' : ¬ q.1 = k := fun z => e (h1.trans z)
      have b : valueAt (q :: qs) k = valueAt qs k := by simp [valueAt, List.find?_cons, e']
      rw [valV_neg e, b]; exact ih
theorem KV.any {kvs : List (κ × V)} {vs : List (κ × Value)} (r : KV kvs vs) (k : κ) : (kvs.any fun kv => decide (kv.1 = k)) = vs.any fun kv => decide (kv.1 = k) := by
  unfold KV at r
  induction r with
  | nil => rfl
  | cons h t ih => rw [List.any_cons, List.any_cons, ih, h.1]
theorem KV.repl {kvs : List (κ × V)} {vs : List (κ × Value)} (r : KV kvs vs) (k : κ) {y : V} {u : Value} (ry : RelV y u) :
    KV (kvs.map fun kv => if kv.1 = k then (kv.1, y) else kv) (vs.map fun kv => if kv.1 = k then (kv.1, u) else kv) := by
  unfold KV at r ⊢
  induction r with
  | nil => exact .nil
  | @cons p q ps qs h t ih =>
    rw [List.map_cons, List.map_cons]
    refine .cons ?_ ih
    obtain ⟨h1, h2⟩ := h
    by_cases e : p.1 = k
    · rw [if_pos e, if_pos (h1.symm.trans e)]; exact ⟨h1, ry⟩
    · rw [if_neg e, if_neg (fun z => e (h1.trans z))]; exact ⟨h1, h2⟩
theorem KV.put {kvs : List (κ × V)} {vs : List (κ × Value)} (r : KV kvs vs) (k : κ) {y : V} {u : Value} (ry : RelV y u) : KV (putK kvs k y) (stored vs k u) := by
  unfold putK stored
  rw [r.any k]
  by_cases e : (vs.any fun kv => decide (kv.1 = k)) = true
  · rw [if_pos e, if_pos e]; exact r.repl k ry
  · rw [if_neg e, if_neg e]; exact Paired.snoc r ⟨rfl, ry⟩
theorem KV.drop {kvs : List (κ × V)} {vs : List (κ × Value)} (r : KV kvs vs) (k : κ) : KV (dropK kvs k) (without vs k) := by
  unfold KV at r ⊢
  unfold dropK without
  induction r with
  | nil => exact .nil
  | @cons p q ps qs h t ih =>
    obtain ⟨h1, h2⟩ := h
    rw [List.filter_cons, List.filter_cons]
    by_cases e : p.1 = k
    · have a : ¬ decide (p.1 ≠ k) = true := by simp [e]
      have b : ¬ decide (q.1 ≠ k) = true := by simp [h1.symm.trans e]
      rw [if_neg a, if_neg b]; exact ih
    · have e' : ¬ q.1 = k := fun z => e (h1.trans z)
      have a : decide (p.1 ≠ k) = true := by simp [e]
      have b : decide (q.1 ≠ k) = true := by simp [e']
      rw [if_pos a, if_pos b]; exact .cons ⟨h1, h2⟩ ih
theorem KV.keys {kvs : List (κ × V)} {vs : List (κ × Value)} (r : KV kvs vs) : kvs.map (·.1) = vs.map (·.1) := by
  unfold KV at r
  induction r with
  | nil => rfl
  | cons h t ih => rw [List.map_cons, List.map_cons, ih, h.1]
theorem KV.length {kvs : List (κ × V)} {vs : List (κ × Value)} (r : KV kvs vs) : kvs.length = vs.length := Paired.length r
end


/-! ### a tracked dict, its keys ints and texts or tuples of these -/

/-- raw entries of a dict with tuple keys -/
abbrev KT (H : Hp) : List (List Key × V) → List (List Key × Addr × Value) → Prop := Paired fun p q => p.1 = q.1 ∧ H q.2.1 = some (.tup (p.1.map kV)) ∧ RelV p.2 q.2.2
theorem KT.val {H : Hp} {kvs : List (List Key × V)} {xs : List (List Key × Addr × Value)} (r : KT H kvs xs) (k : List Key) : RelO (valV kvs k) ((atKey xs k).map (·.2)) := by
  induction r with
  | nil => exact True.intro
  | @cons p q ps qs h t ih =>
    obtain ⟨h1, _, h2⟩ := h
    by_cases e : p.1 = k
    · have e' : q.1 = k := h1.symm.trans e
      have b : atKey (q :: qs) k = some q.2 := by simp [atKey, List.find?_cons, e']
      rw [valV_pos e, b]; exact h2
    · have e' : ¬ q.1 = k := fun z => e (h1.trans z)
      have b : atKey (q :: qs) k = atKey qs k := by simp [atKey, List.find?_cons, e']
      rw [valV_neg e, b]; exact ih
theorem KT.repl {H : Hp} {kvs : List (List Key × V)} {xs : List (List Key × Addr × Value)} (r : KT H kvs xs) (k : List Key) {y : V} {u : Value} (ry : RelV y u) :
    KT H (kvs.map fun kv => if kv.1 = k then (kv.1, y) else kv) (xs.map (putAt k u)) := by
  induction r with
  | nil => exact .nil
  | @cons p q ps qs h t ih =>
    rw [List.map_cons, List.map_cons]
    refine .cons ?_ ih
    obtain ⟨h1, h2, h3⟩ := h
    unfold putAt
    by_cases e : p.1 = k
    · rw [if_pos e, if_pos (h1.symm.trans e)]; exact ⟨h1, h2, ry⟩
    · rw [if_neg e, if_neg (fun z => e (h1.trans z))]; exact ⟨h1, h2, h3⟩
theorem KT.put {H : Hp} {kvs : List (List Key × V)} {xs : List (List Key × Addr × Value)} (r : KT H kvs xs) (k : List Key) {b : Addr} {y : V} {u : Value} (hb : H b = some (.tup (k.map kV))) (ry : RelV y u) :
    KT H (putK kvs k y) (storedH xs k b u) := by
  have e : (kvs.any fun kv => decide (kv.1 = k)) = (atKey xs k).isSome := by
    rw [valV_any, (r.val k).isSome_eq, Option.isSome_map]
  unfold putK storedH
  rw [e]
  by_cases q : (atKey xs k).isSome = true
  · rw [if_pos q, if_pos q]; exact r.repl k ry
  · rw [if_neg q, if_neg q]; exact Paired.snoc r ⟨rfl, hb, ry⟩
theorem KT.keeps {H H' : Hp} {kvs : List (List Key × V)} {xs : List (List Key × Addr × Value)} (r : KT H kvs xs) (ht : ∀ b ys, H b = some (.tup ys) → H' b = some (.tup ys)) : KT H' kvs xs :=
  Paired.mapP r fun _ _ z => ⟨z.1, ht _ _ z.2.1, z.2.2⟩

section
variable {P : Program} {w : World} {H : Hp} {h : Heap} {a : Addr}
end

/-- what the dict at a holds at the key y -/
def DGet (H : Hp) (a : Addr) (y : V) (r : Option V) : Prop :=
  (∃ kvs k, Rd H a (.dK kvs) ∧ y = kV k ∧ r = valV kvs k) ∨ ∃ kvs k b, Rd H a (.dT kvs) ∧ y = .ref b ∧ H b = some (.tup (k.map kV)) ∧ r = valV kvs k
/-- the heap behind a[y] = v -/
def DPut (H : Hp) (a : Addr) (y v : V) (H' : Hp) : Prop :=
  (∃ kvs k, H a = some (.dK kvs) ∧ y = kV k ∧ kvs.length < sizeLine ∧ H' = upd H a (.dK (putK kvs k v))) ∨
  ∃ kvs k b, H a = some (.dT kvs) ∧ y = .ref b ∧ H b = some (.tup (k.map kV)) ∧ kvs.length < sizeLine ∧ H' = upd H a (.dT (putK kvs k v))
theorem DGet.k {H : Hp} {a : Addr} {kvs : List (Key × V)} {k : Key} (e : H a = some (.dK kvs)) : DGet H a (kV k) (valV kvs k) := .inl ⟨kvs, k, .inl e, rfl, rfl⟩
theorem DGet.t {H : Hp} {a b : Addr} {kvs : List (List Key × V)} {k : List Key} (e : H a = some (.dT kvs)) (eb : H b = some (.tup (k.map kV))) : DGet H a (.ref b) (valV kvs k) := .inr ⟨kvs, k, b, .inl e, rfl, eb, rfl⟩
theorem DPut.k {H : Hp} {a : Addr} {kvs : List (Key × V)} {k : Key} {v : V} (e : H a = some (.dK kvs)) (hl : kvs.length < sizeLine) : DPut H a (kV k) v (upd H a (.dK (putK kvs k v))) := .inl ⟨kvs, k, e, rfl, hl, rfl⟩
theorem DPut.t {H : Hp} {a b : Addr} {kvs : List (List Key × V)} {k : List Key} {v : V} (e : H a = some (.dT kvs)) (eb : H b = some (.tup (k.map kV))) (hl : kvs.length < sizeLine) :
    DPut H a (.ref b) v (upd H a (.dT (putK kvs k v))) := .inr ⟨kvs, k, b, e, rfl, eb, hl, rfl⟩


section
variable {X : Cx} {pins : List (Addr × Obj)} {σ : St} {H : Hp} {s : Shared} {a : Addr} {y v : V} {u r : Value} {o : Option V} {A : Around} {E : Value → Shared → Prop}


end

section
variable {X : Cx} {pins : List (Addr × Obj)} {σ : St} {H : Hp} {s : Shared} {a : Addr} {kvs : List (Key × V)} {k : Key} {u : Value} {A : Around} {E : Value → Shared → Prop}
end


/-! ### readings and rules -/



section
variable {X : Cx} {o i e value : Expr} {pos pos' tpos : Pos} {td ty tv : TE}
end


/-! ### displays -/
section
variable {X : Cx} {pos : Pos}
end




/-! ### methods -/
/-- a method call o.m(e) of a built-in, with one argument: what must be seen of the text -/
structure M1 (X : Cx) (o : Expr) (m : Str) (apos : Pos) (e : Expr) (cpos : Pos) : Prop where
  base : attributeBase o m X.env (eval o X.env) = eval o X.env
  few : ((backTo cpos (starEach [e] X.env)).all (fun x => !x.1) && (backToKw cpos (keywordEach [] X.env)).all (fun x => x.1.isSome)
    && decide (([e] : List Expr).length + ([] : List Keyword).length + (if ([] : List Keyword).isEmpty then 0 else 1) < 30)) = true
  line : (apos.endLine == cpos.line) = true
  trees : backTo cpos (starEach [e] X.env) = [(false, eval e X.env)]
structure M2 (X : Cx) (o : Expr) (m : Str) (apos : Pos) (e f : Expr) (cpos : Pos) : Prop where
  base : attributeBase o m X.env (eval o X.env) = eval o X.env
  few : ((backTo cpos (starEach [e, f] X.env)).all (fun x => !x.1) && (backToKw cpos (keywordEach [] X.env)).all (fun x => x.1.isSome)
    && decide (([e, f] : List Expr).length + ([] : List Keyword).length + (if ([] : List Keyword).isEmpty then 0 else 1) < 30)) = true
  line : (apos.endLine == cpos.line) = true
  trees : backTo cpos (starEach [e, f] X.env) = [(false, eval e X.env), (false, eval f X.env)]


section
variable {X : Cx} {pins : List (Addr × Obj)} {σ : St} {H : Hp} {s : Shared} {a : Addr} {y d : V} {u r : Value} {o : Option V} {A : Around} {E : Value → Shared → Prop}
end

section
variable {X : Cx} {o e f : Expr} {apos cpos : Pos} {td ty tx : TE}
end

/-! ### dict(d): a copy -/
section
variable {X : Cx} {pins : List (Addr × Obj)} {σ : St} {H : Hp} {s : Shared} {a : Addr} {kvs : List (Key × V)} {A : Around} {E : Value → Shared → Prop}
end


section
variable {X : Cx} {pins : List (Addr × Obj)} {σ : St} {H : Hp} {s : Shared} {a : Addr} {y : V} {u : Value} {A : Around} {E : Value → Shared → Prop}
end
end L2

namespace L2
open PySem PySem.Spec PyProof.Rows


section
variable {prog : Program} {w : World} {A : Around} {E : Value → Shared → Prop}


end

section
variable {X : Cx}
theorem refs_at : ∀ {ps : List Addr} {us : List Value}, Vals (ps.map V.ref) us → us = ps.map Value.ref
  | [], us, r => by
    rw [List.map_nil] at r
    cases r
    rfl
  | p :: ps, us, r => by
    rw [List.map_cons] at r
    cases r with
    | cons h t =>
      cases h
      rw [List.map_cons, ← refs_at t]
end
end L2

namespace L2
open PySem PySem.Spec PyProof.Rows


section
variable {X : Cx} {pins : List (Addr × Obj)} {σ : St} {H : Hp} {s : Shared} {h' : Heap}

/-! ### locking a thing while a statement runs -/
end
section
variable {X : Cx}

/-! ### one iterator just laid -/
end

/-! ### range with a step -/
/-- range(i, j, c): small bounds, n items -/
def RgC (i j c : Int) (n : Nat) : Prop := c ≠ 0 ∧ c.natAbs < 1073741824 ∧ Builtin.Range.small i j c = true ∧ Builtin.Range.rangeSize i j c = n
theorem RgC.neg {i j : Int} (ha : -(2 ^ 62) ≤ i) (ha' : i < 2 ^ 62) (hb : -(2 ^ 62) ≤ j) (hb' : j < 2 ^ 62) : RgC i j (-1) (i - j).toNat :=
  ⟨by decide, by decide, PySem.W.small_down ha ha' hb hb', PySem.W.rangeSize_downNat i j⟩
section
variable {X : Cx} {tg : Expr}
end

/-! ### reversed(list) -/
section
variable {X : Cx} {tg : Expr}
end

/-! ### a str -/

/-! ### a dict's keys: any dict's entries -/
section
variable {prog : Program} {w : World} {A : Around} {E : Value → Shared → Prop} {s : Shared}
end

/-! ### a locked dict -/
section
variable {X : Cx} {pins : List (Addr × Obj)} {σ : St} {H : Hp} {s : Shared} {d : Addr} {o : Obj}
end

section
variable {P : Program} {w : World} {K : PySem.W.Frag} {tg : Expr} {d : Addr} {o : Obj} {es : Array DictEntry} {ep : Nat}
end

/-! ### for k in d, d.keys(), d.values(), d.items() -/
section
variable {X : Cx} {tg e : Expr} {td : TE} {apos cpos : Pos}
end

/-! ### enumerate(list) -/
/-! ### zip(list, list) -/
end L2

section 
namespace Bits
open PySem PyProof.Rows






theorem nat_xor_add_and (m : Nat) : ∀ n : Nat, (m ^^^ n) + 2 * (m &&& n) = m + n := by
  induction m using Nat.strongRecOn with
  | _ m ih =>
    intro n
    by_cases h0 : m = 0
    · subst h0
      simp
    · have ih' := ih (m / 2) (by omega) (n / 2)
      rw [← Nat.xor_div_two, ← Nat.and_div_two] at ih'
      have o1 := @Nat.xor_mod_two_eq_one m n
      have a1 := @Nat.and_mod_two_eq_one m n
      omega

theorem bitXor_pp {x y : Int} (hx : 0 ≤ x) (hy : 0 ≤ y) : Builtin.bitXor x y = ((x.toNat ^^^ y.toNat : Nat) : Int) := by
  have e := nat_xor_add_and x.toNat y.toNat
  rw [bitXor_and, bitAnd_pp hx hy]
  omega

end Bits
end 

section 
namespace TL
open PySem PySem.Builtin PySem.Builtin.Str PySem.StrLaws

abbrev tl (x : Str) : List Nat := x.cps.toList

/-! ### the list functions -/
/-- S stands at the head of l -/
def pre (S l : List Nat) : Bool := l.take S.length == S
/-- what stands before the first S, and behind it -/
def par (S : List Nat) : List Nat → List Nat → Option (List Nat × List Nat)
  | _, [] => none
  | acc, c :: r => if pre S (c :: r) = true then some (acc, (c :: r).drop S.length) else par S (acc ++ [c]) r




/-! ### the model's split and partition are these -/




/-! ### computing spl and par -/


/-! ### digits -/

/-! ### words: x.split() -/
end TL
end 

namespace L2
open PySem PySem.Spec PyProof.Rows




section
variable {X : Cx} {pins : List (Addr × Obj)} {σ : St} {H : Hp} {s : Shared} {Q : VK}
end

section
variable {X : Cx}





/-! ### of a text alone -/

/-! ### of a text and a text -/

end

section
variable {X : Cx} {o e : Expr} {to te : TE}

end
end L2

namespace L2
open PySem PySem.Spec PyProof.Rows

section
variable {X : Cx}
end

/-! ### slices of a text -/
theorem IsPart.raw {v : Value} {o : Option Int} (p : IsPart v o) : ∃ l : Option (Int × Tok), v = partValue l ∧ l.map (·.1) = o := by
  cases p with
  | none => exact ⟨none, rfl, rfl⟩
  | int i t => exact ⟨some (i, t), rfl, rfl⟩


end L2

namespace Att
open PySem PySem.W PySem.Calls PyProof.Rows

/-! ### the script -/



/-! ### the attachment: holds_open's last premise (the goal 'hc' behind k_head) from a wpAny of the law's body -/



/-! ### rules over ANY heap (no ledger) from facts about the written part K: the library's own take a ledger (News) for what they write -/
section
variable {prog : Program} {w : World} {A : Around} {E : Value → Shared → Prop} {s : Shared} {K : Frag}





/-! the whole heap as the ledger: makes every rule that writes through a ledger a rule over any heap -/

end
end Att

namespace L2
open PySem PySem.Spec PyProof.Rows



end L2

namespace L2
open PySem PySem.Spec PyProof.Rows


end L2

/- THE LAST THEOREM (shape; LID, My.* are yours):
   My.Adr: a structure of the addresses that your layer names (classes, functions); My.Txt K t: a structure (Prop) of the equations over K;
   My.txt_mk : {K} {implicit addresses ..} (e1 : nsIn K mainGlobals "law" = some (some (.ref f))) (e2 : K.lookup f = some ⟨oc, od, .func (fnOf "law" "law" params body scope dV kV doc pm an cdv ct), sl⟩) (e3 : codeIn K cdv "law" = true) .. : ∃ t, My.Txt K t

set_option maxRecDepth 100000 in
set_option maxHeartbeats 0 in
(the tactic k_is has no namespace: write k_is) -/

/-! SHORT WORDS over the layer: a def of the text, its body, what a loop and a test want. -/
namespace L2
open PySem PySem.Spec PyProof.Rows

/-! ### the text by places -/
def defArgs (s : Stmt) : Arguments := match s with
  | .FunctionDef _ a _ _ _ _ _ _ _ _ => a
  | _ => { posonlyargs := [], args := [], vararg := none, kwonlyargs := [], kw_defaults := [], kwarg := none, defaults := [] }
def defBody (s : Stmt) : List Stmt := match s with
  | .FunctionDef _ _ b _ _ _ _ _ _ _ => b
  | _ => []
def defScope (s : Stmt) : Scope := match s with
  | .FunctionDef _ _ _ _ _ _ sc _ _ _ => sc
  | _ => { kind := .function, names := [], isGenerator := false, isCoroutine := false }

/-! ### no exception leaves a def -/
abbrev CX0 : CXT := fun _ _ _ _ _ _ => False
abbrev E0 : XK := fun _ _ _ => False
theorem pass0 {X : Cx} : Passes CX0 X E0 := fun _ _ _ _ _ _ _ h => h.elim

/-! ### a def (or method) of the text as it stands behind the top -/
structure Fun (K : PySem.W.Frag) (x qual : Str) (st : Stmt) (f : Addr) (fd : FuncData) : Prop where
  ex : ∃ (oc : Value) (od : Option Addr) (kV doc pm : Value) (an : Option Addr) (cdv ct : Value) (osl : Array (Option Value)),
    fd = PySem.W.fnOf x qual (defArgs st) (defBody st) (defScope st) .none kV doc pm an cdv ct ∧ K.lookup f = some ⟨oc, od, .func fd, osl⟩ ∧ PySem.W.codeIn K cdv qual = true
  kp : PySem.W.keepIn K (.ref f) = true
section
variable {P : Program} {w : World} {K : PySem.W.Frag} {mg : Str → Option Value} {base : Heap}
/-- THE RULE for a def: its body as a term of rules, and the reading of that term -/
theorem Fun.ok {x qual : Str} {st : Stmt} {f : Addr} {fd : FuncData} {N ps : List Str} {k : Nat} {sp : Sp} (F : Fun K x qual st f fd) (S : FnScope N ps (defScope st)) (len : ∀ vs H Q E, sp vs H Q E → vs.length = ps.length)
    (hbody : ∀ (cdv : Value) (A : Around) (outer : List Env) (s : Shared) (H : Hp) (vs : List V) (Q : VK) (E : XK), Room k (A.deeper (envOfC qual (defScope st) s.heap.objs.size f cdv)) → sp vs H Q E →
      ∃ t, PSs (cxOf CX0 P w K mg base N qual (defScope st) f cdv A outer s H E).nox (defBody st) t ∧ t { nx := fun _ H' => Q .non H', rt := Q } (start N vs) H) : FnOk P w K mg base CX0 (k + 1) f fd ps sp := by
  obtain ⟨oc, od, kV, doc, pm, an, cdv, ct, osl, rfl, lk, hcd⟩ := F.ex
  refine fn_of lk hcd S len fun A outer s H vs Q E hr hsp => ?_
  obtain ⟨t, h, q⟩ := hbody cdv A outer s H vs Q E hr hsp
  exact ⟨t, h.nox, q⟩
/-- how its arguments bind (no defaults): h is «fun _ _ _ _ _ _ us hl => match us, hl with | [_, _], _ => rfl», one _ a parameter -/
theorem Fun.binds {x qual : Str} {st : Stmt} {f : Addr} {fd : FuncData} {ps : List Str} (F : Fun K x qual st f fd)
    (h : ∀ (kV doc pm : Value) (an : Option Addr) (cdv ct : Value) (us : List Value), us.length = ps.length → bindArgs (PySem.W.fnOf x qual (defArgs st) (defBody st) (defScope st) .none kV doc pm an cdv ct) ⟨us, []⟩ = pure (ps.zip us)) : Binds K fd ps [] := by
  obtain ⟨oc, od, kV, doc, pm, an, cdv, ct, osl, rfl, lk, hcd⟩ := F.ex
  exact .all (h kV doc pm an cdv ct)
theorem fun_mk {x qual : Str} {st : Stmt} {f : Addr} {oc : Value} {od an : Option Addr} {osl : Array (Option Value)} {kV doc pm cdv ct : Value} (l : K.lookup f = some ⟨oc, od, .func (PySem.W.fnOf x qual (defArgs st) (defBody st) (defScope st) .none kV doc pm an cdv ct), osl⟩)
    (c : PySem.W.codeIn K cdv qual = true) (k : PySem.W.keepIn K (.ref f) = true) : Fun K x qual st f (PySem.W.fnOf x qual (defArgs st) (defBody st) (defScope st) .none kV doc pm an cdv ct) := ⟨⟨oc, od, kV, doc, pm, an, cdv, ct, osl, rfl, l, c⟩, k⟩
end

/-! ### expressions in short: the name that stands in the i-th slot -/
section
variable {X : Cx}
theorem pv (i : Nat) {x : Str} {pos : Pos} (hN : X.N[i]? = some x := by rfl) (hv : Vis X.env.scope x := by first | exact Or.inl rfl | exact Or.inr (Or.inl rfl) | exact Or.inr (Or.inr rfl)) (hd : (x == ("__debug__" : Str)) = false := by decide)
    (hcd : (x == ("__classdict__" : Str)) = false := by decide) : PE X (.Name x pos) (tVar i) := pe_var hN hv hd hcd
end

/-! ### tests -/

/-! ### heaps -/
/-- all that was tracked is as it was -/
def Same (H H' : Hp) : Prop := ∀ b o, H b = some o → H' b = some o
theorem Same.refl (H : Hp) : Same H H := fun _ _ h => h
theorem Same.trans {H H1 H2 : Hp} (a : Same H H1) (b : Same H1 H2) : Same H H2 := fun c o h => b c o (a c o h)
theorem Same.free {H H' : Hp} (e : Same H H') {l : Addr} (h : H' l = Option.none) : H l = Option.none := by
  cases q : H l with
  | none => rfl
  | some o =>
    rw [e l o q] at h
    cases h
theorem Same.seq {K : PySem.W.Frag} {H H' : Hp} {a : Addr} {xs : List V} (e : Same H H') (h : SqL K H a xs) : SqL K H' a xs := by
  rcases h with (h | ⟨o, h⟩) | h
  · exact .inl (.inl (e _ _ h))
  · exact .inl (.inr ⟨o, e _ _ h⟩)
  · exact .inr h

/-! ### a dict's pairs: keys that differ -/
section
variable {κ : Type} [DecidableEq κ]
end
/-! ### lists -/
theorem at_of {xs : List V} {z : Int} {j : Nat} {v : V} (e : z = (j : Int)) (h : xs[j]? = some v) : atI xs z = some v := by
  rw [e]
  exact atI_nat h
/-- a new instance and its __init__ leave all that was tracked as it was -/
theorem Same.made {H H1 : Hp} {x dx C : Addr} (nx : H x = Option.none) (nd : H dx = Option.none) (k : ∀ b o, (upd (upd H dx (.own x)) x (.ins C dx [])) b = some o → b ≠ x → H1 b = some o) : Same H H1 := fun b o e =>
  k b o (by rw [upd_ne (ne_of_none e nx), upd_ne (ne_of_none e nd)]; exact e) (ne_of_none e nx)
end L2

section
set_option Elab.async false
set_option linter.all false
set_option maxRecDepth 100000
set_option maxHeartbeats 2000000
namespace L2
open PySem PySem.Spec PyProof.Rows
open PySem.W (WData Codec OpenSpec Well WellAll ReadsW ReadsAllW)
/-! ### an answer as data -/
mutual
/-- x stands for the datum d, lists and tuples all the way -/
inductive Dw (K : PySem.W.Frag) (H : Hp) : V → WData → Prop
  | non : Dw K H .non .none
  | bl (b : Bool) : Dw K H (.bl b) (.bool b)
  | int (i : Int) : Dw K H (.int i) (.int i)
  | str (x : Str) : Dw K H (.str x) (.str x)
  | byt (b : Array UInt8) : Dw K H (.byt b) (.bytes b.toList)
  | lst {a : Addr} {xs : List V} {ds : List WData} : SqL K H a xs → DwAll K H xs ds → Dw K H (.ref a) (.list ds)
  | tup {a : Addr} {xs : List V} {ds : List WData} : SqT K H a xs → DwAll K H xs ds → Dw K H (.ref a) (.tuple ds)
inductive DwAll (K : PySem.W.Frag) (H : Hp) : List V → List WData → Prop
  | nil : DwAll K H [] []
  | cons {v : V} {vs : List V} {d : WData} {ds : List WData} : Dw K H v d → DwAll K H vs ds → DwAll K H (v :: vs) (d :: ds)
end
theorem dw_ints {K : PySem.W.Frag} {H : Hp} : ∀ ns : List Int, DwAll K H (ns.map V.int) (ns.map WData.int)
  | [] => .nil
  | n :: r => .cons (.int n) (dw_ints r)
theorem ints_dw {K : PySem.W.Frag} {H : Hp} : ∀ (ns : List Int) (xs : List V), DwAll K H xs (ns.map WData.int) → xs = ns.map V.int
  | [], xs, h => by
    cases h
    rfl
  | n :: r, xs, h => by
    cases h with
    | cons h1 h2 =>
      cases h1
      rw [ints_dw r _ h2] <;> rfl
section
variable {P : Program} {w : World} {K : PySem.W.Frag} {H : Hp} {h : Heap} {R : PySem.W.WRecords} {cl : Str → Option Addr}
theorem sqL_at {a : Addr} {xs : List V} (hok : HOk P w H h) (KX : K.In h) (q : SqL K H a xs) : ∃ (its : List Value) (o : Obj) (n : Nat), Vals xs its ∧ h.get? a = some o ∧ o.cls = .type "list" ∧ o.data = .seq its.toArray n := by
  rcases q with q | ⟨o, its, n, e, hc, _, hd, _, hv⟩
  · obtain ⟨_, its, n, hv, e⟩ := (show ObjOk P w H h a (.lst xs) from q.ok hok)
    exact ⟨its, _, n, hv, e, rfl, rfl⟩
  · exact ⟨its.toList, o, n, hv, KX _ _ e, hc, by simp [hd]⟩
theorem sqT_at {a : Addr} {xs : List V} (hok : HOk P w H h) (KX : K.In h) (q : SqT K H a xs) : ∃ (its : List Value) (o : Obj) (n : Nat), Vals xs its ∧ h.get? a = some o ∧ o.cls = .type "tuple" ∧ o.data = .seq its.toArray n := by
  rcases q with q | ⟨o, its, n, e, hc, hd, _, hv⟩
  · obtain ⟨_, its, hv, o, e, hc, n, hd⟩ := (show ObjOk P w H h a (.tup xs) from q.ok hok)
    exact ⟨its, o, n, hv, e, hc, hd⟩
  · exact ⟨its.toList, o, n, hv, KX _ _ e, hc, by simp [hd]⟩
mutual
theorem Dw.reads (hok : HOk P w H h) (KX : K.In h) : ∀ (d : WData) (v : V) (u : Value), Dw K H v d → RelV v u → ∃ as, ReadsW R cl h u d as
  | .none, _, _, x, r => by
    cases x
    cases r
    exact ⟨_, ReadsW.none⟩
  | .bool b, _, _, x, r => by
    cases x
    cases r
    exact ⟨_, ReadsW.bool b⟩
  | .int i, _, _, x, r => by
    cases x
    obtain ⟨t, rfl⟩ := r
    exact ⟨_, ReadsW.int i t⟩
  | .str s, _, _, x, r => by
    cases x
    obtain ⟨t, rfl⟩ := r
    exact ⟨_, ReadsW.str s t⟩
  | .bytes b, _, _, x, r => by
    cases x
    obtain ⟨t, rfl⟩ := r
    exact ⟨_, ReadsW.bytes _ t⟩
  | .list ds, _, _, x, r => by
    cases x with
    | lst hs ha =>
      cases r
      obtain ⟨its, o, n, rv, ho, hc, hd⟩ := sqL_at hok KX hs
      obtain ⟨as, hr⟩ := Dw.readsAll hok KX ds _ its ha rv
      exact ⟨_, ReadsW.list ho hc hd hr⟩
  | .tuple ds, _, _, x, r => by
    cases x with
    | tup hs ha =>
      cases r
      obtain ⟨its, o, n, rv, ho, hc, hd⟩ := sqT_at hok KX hs
      obtain ⟨as, hr⟩ := Dw.readsAll hok KX ds _ its ha rv
      exact ⟨_, ReadsW.tuple ho hc hd hr⟩
  | .float _, _, _, x, _ => by cases x
  | .dict _, _, _, x, _ => by cases x
  | .bytearray _, _, _, x, _ => by cases x
  | .set _, _, _, x, _ => by cases x
  | .frozenset _, _, _, x, _ => by cases x
  | .obj _ _, _, _, x, _ => by cases x
theorem Dw.readsAll (hok : HOk P w H h) (KX : K.In h) : ∀ (ds : List WData) (vs : List V) (us : List Value), DwAll K H vs ds → Vals vs us → ∃ as, ReadsAllW R cl h us ds as
  | [], _, _, x, r => by
    cases x
    cases r
    exact ⟨_, ReadsAllW.nil⟩
  | d :: ds, _, _, x, r => by
    cases x with
    | cons h1 h2 =>
      cases r with
      | cons r1 r2 =>
        obtain ⟨as, q1⟩ := Dw.reads hok KX d _ _ h1 r1
        obtain ⟨bs, q2⟩ := Dw.readsAll hok KX ds _ _ h2 r2
        exact ⟨_, ReadsAllW.cons q1 q2⟩
end
end
/-! ### the arguments -/
mutual
/-- data that a codec tells -/
def plW : WData → Bool
  | .none => true
  | .bool _ => true
  | .int _ => true
  | .str _ => true
  | .bytes _ => true
  | .list xs => plWs xs
  | .tuple xs => plWs xs
  | _ => false
def plWs : List WData → Bool
  | [] => true
  | x :: r => plW x && plWs r
end
theorem plWs_map {α : Type} {f : α → WData} (h : ∀ a, plW (f a) = true) : ∀ l : List α, plWs (l.map f) = true
  | [] => rfl
  | x :: r => by
    show (plW (f x) && plWs (r.map f)) = true
    rw [h x, plWs_map h r] <;> rfl
theorem pl_enc : ∀ (c : Codec) (a : c.denote), plW (c.enc a) = true
  | .unit, _ => rfl
  | .bool, _ => rfl
  | .int _ _, _ => rfl
  | .nat _ _, _ => rfl
  | .u8, _ => rfl
  | .bytes _ _, _ => rfl
  | .text _ _ _ _, _ => rfl
  | .list _ _ c, a => plWs_map (fun x => pl_enc c x) a
  | .pair c d, a => by
    show (plW (c.enc a.1) && (plW (d.enc a.2) && true)) = true
    rw [pl_enc c a.1, pl_enc d a.2] <;> rfl
  | .triple c d e, a => by
    show (plW (c.enc a.1) && (plW (d.enc a.2.1) && (plW (e.enc a.2.2) && true))) = true
    rw [pl_enc c a.1, pl_enc d a.2.1, pl_enc e a.2.2] <;> rfl
  | .option c, none => rfl
  | .option c, some x => pl_enc c x
theorem pl_encAll : ∀ (cs : List Codec) (a : Codec.denoteAll cs), plWs (Codec.encAll cs a) = true
  | [], _ => rfl
  | c :: cs, a => by
    show (plW (c.enc a.1) && plWs (Codec.encAll cs a.2)) = true
    rw [pl_enc c a.1, pl_encAll cs a.2] <;> rfl
theorem weight_mem : ∀ {xs : List WData} {d : WData}, d ∈ xs → d.weight ≤ WData.weightAll xs
  | [], d, h => absurd h (by simp)
  | x :: r, d, h => by
    show d.weight ≤ x.weight + 1 + WData.weightAll r
    rcases List.mem_cons.mp h with e | m
    · rw [e]
      omega
    · have z := weight_mem m
      omega
def toV : Value → V
  | .none => .non
  | .bool b => .bl b
  | .int i _ => .int i
  | .str x _ => .str x
  | .bytes b _ => .byt b
  | .ref a => .ref a
  | _ => .non
/-- a value of the arguments, its objects among A -/
def OkU (A : List Addr) : Value → Prop
  | .none => True
  | .bool _ => True
  | .int _ _ => True
  | .str _ _ => True
  | .bytes _ _ => True
  | .ref a => a ∈ A
  | _ => False
theorem OkU.mono {A B : List Addr} (h : ∀ a ∈ A, a ∈ B) : ∀ {u : Value}, OkU A u → OkU B u := fun {u} x => by
  cases u with
  | ref a => exact h a x
  | none => trivial
  | bool b => trivial
  | int i t => trivial
  | str s t => trivial
  | bytes b t => trivial
  | _ => exact False.elim x
theorem relV_toV {A : List Addr} {u : Value} (x : OkU A u) : RelV (toV u) u := by
  cases u with
  | ref a => rfl
  | none => rfl
  | bool b => rfl
  | int i t => exact ⟨t, rfl⟩
  | str s t => exact ⟨t, rfl⟩
  | bytes b t => exact ⟨t, rfl⟩
  | _ => exact False.elim x
theorem vals_toV {A : List Addr} : ∀ {vs : List Value}, (∀ u ∈ vs, OkU A u) → Vals (vs.map toV) vs
  | [], _ => .nil
  | u :: r, h => .cons (relV_toV (h u (List.mem_cons_self ..))) (vals_toV fun x hx => h x (List.mem_cons_of_mem _ hx))
/-- an object of the arguments -/
def ArgOb (h : Heap) (A : List Addr) (a : Addr) : Prop := ∃ vs : List Value, vs.length ≤ sizeLine ∧ (∀ u ∈ vs, OkU A u) ∧
  (h.get? a = some { cls := .type "list", data := .seq vs.toArray } ∨ h.get? a = some { cls := .type "tuple", data := .seq vs.toArray })
theorem ArgOb.mono {h : Heap} {A B : List Addr} {a : Addr} (k : ∀ a ∈ A, a ∈ B) (x : ArgOb h A a) : ArgOb h B a := by
  obtain ⟨vs, h1, h2, h3⟩ := x
  exact ⟨vs, h1, fun u hu => (h2 u hu).mono k, h3⟩
theorem wellAll_len {P : Params} {h : Heap} : ∀ {vs : List Value} {ds : List WData}, WellAll P h vs ds → vs.length = ds.length
  | _, _, .nil => rfl
  | _, _, .cons _ b => by
    show _ + 1 = _ + 1
    rw [wellAll_len b]
theorem well_list {P : Params} {h : Heap} {v : Value} {ds : List WData} (x : Well P h v (.list ds)) : ∃ (a : Addr) (vs : List Value), v = .ref a ∧ h.get? a = some { cls := .type "list", data := .seq vs.toArray } ∧ WellAll P h vs ds := by
  cases x with
  | list ho hall => exact ⟨_, _, rfl, ho, hall⟩
theorem well_tuple {P : Params} {h : Heap} {v : Value} {ds : List WData} (x : Well P h v (.tuple ds)) : ∃ (a : Addr) (vs : List Value), v = .ref a ∧ h.get? a = some { cls := .type "tuple", data := .seq vs.toArray } ∧ WellAll P h vs ds := by
  cases x with
  | tuple ho hall => exact ⟨_, _, rfl, ho, hall⟩
theorem well_cons {P : Params} {h : Heap} {us : List Value} {d : WData} {ds : List WData} (x : WellAll P h us (d :: ds)) : ∃ (v : Value) (vs : List Value), us = v :: vs ∧ Well P h v d ∧ WellAll P h vs ds := by
  cases x with
  | cons a b => exact ⟨_, _, rfl, a, b⟩
theorem line_of {n : Nat} (h : n ≤ 1048576) : n ≤ sizeLine := Nat.le_trans h (by decide)
section
variable {P : Params} {h : Heap}
mutual
theorem area_one : ∀ (d : WData) (v : Value), Well P h v d → plW d = true → d.weight ≤ 1048576 → ∃ A : List Addr, OkU A v ∧ ∀ a ∈ A, ArgOb h A a
  | .none, _, x, _, _ => by
    cases x
    exact ⟨[], trivial, fun a m => absurd m (by simp)⟩
  | .bool b, _, x, _, _ => by
    cases x
    exact ⟨[], trivial, fun a m => absurd m (by simp)⟩
  | .int i, _, x, _, _ => by
    cases x
    exact ⟨[], trivial, fun a m => absurd m (by simp)⟩
  | .str s, _, x, _, _ => by
    cases x
    exact ⟨[], trivial, fun a m => absurd m (by simp)⟩
  | .bytes b, _, x, _, _ => by
    cases x
    exact ⟨[], trivial, fun a m => absurd m (by simp)⟩
  | .list ds, _, x, p, z => by
    obtain ⟨a, vs, rfl, ho, hall⟩ := well_list x
    have z2 : WData.weightAll ds ≤ 1048576 := z
    obtain ⟨A, h1, h2⟩ := area_all ds _ hall p fun d hd => Nat.le_trans (weight_mem hd) z2
    have k : ∀ b ∈ A, b ∈ a :: A := fun b hb => List.mem_cons_of_mem _ hb
    refine ⟨a :: A, List.mem_cons_self .., fun b hb => ?_⟩
    rcases List.mem_cons.mp hb with e | m
    · rw [e]
      exact ⟨vs, line_of (by rw [wellAll_len hall]; exact Nat.le_trans (PySem.W.length_le_weightAllW ds) z2), fun u hu => (h1 u hu).mono k, .inl ho⟩
    · exact (h2 b m).mono k
  | .tuple ds, _, x, p, z => by
    obtain ⟨a, vs, rfl, ho, hall⟩ := well_tuple x
    have z2 : WData.weightAll ds ≤ 1048576 := z
    obtain ⟨A, h1, h2⟩ := area_all ds _ hall p fun d hd => Nat.le_trans (weight_mem hd) z2
    have k : ∀ b ∈ A, b ∈ a :: A := fun b hb => List.mem_cons_of_mem _ hb
    refine ⟨a :: A, List.mem_cons_self .., fun b hb => ?_⟩
    rcases List.mem_cons.mp hb with e | m
    · rw [e]
      exact ⟨vs, line_of (by rw [wellAll_len hall]; exact Nat.le_trans (PySem.W.length_le_weightAllW ds) z2), fun u hu => (h1 u hu).mono k, .inr ho⟩
    · exact (h2 b m).mono k
  | .float _, _, _, p, _ => Bool.noConfusion (show false = true from p)
  | .dict _, _, _, p, _ => Bool.noConfusion (show false = true from p)
  | .bytearray _, _, _, p, _ => Bool.noConfusion (show false = true from p)
  | .set _, _, _, p, _ => Bool.noConfusion (show false = true from p)
  | .frozenset _, _, _, p, _ => Bool.noConfusion (show false = true from p)
  | .obj _ _, _, _, p, _ => Bool.noConfusion (show false = true from p)
theorem area_all : ∀ (ds : List WData) (vs : List Value), WellAll P h vs ds → plWs ds = true → (∀ d ∈ ds, d.weight ≤ 1048576) → ∃ A : List Addr, (∀ u ∈ vs, OkU A u) ∧ ∀ a ∈ A, ArgOb h A a
  | [], _, x, _, _ => by
    cases x
    exact ⟨[], fun u m => absurd m (by simp), fun a m => absurd m (by simp)⟩
  | d :: ds, _, x, p, z => by
    obtain ⟨v, vs, rfl, x1, x2⟩ := well_cons x
    have q : plW d = true ∧ plWs ds = true := Bool.and_eq_true_iff.mp p
    obtain ⟨A, a1, a2⟩ := area_one d v x1 q.1 (z d (List.mem_cons_self ..))
    obtain ⟨B, b1, b2⟩ := area_all ds vs x2 q.2 fun e he => z e (List.mem_cons_of_mem _ he)
    have kA : ∀ b ∈ A, b ∈ A ++ B := fun b hb => List.mem_append.mpr (.inl hb)
    have kB : ∀ b ∈ B, b ∈ A ++ B := fun b hb => List.mem_append.mpr (.inr hb)
    refine ⟨A ++ B, fun u hu => ?_, fun b hb => ?_⟩
    · rcases List.mem_cons.mp hu with e | m
      · rw [e]
        exact a1.mono kA
      · exact (b1 u m).mono kB
    · rcases List.mem_append.mp hb with m | m
      · exact (a2 b m).mono kA
      · exact (b2 b m).mono kB
end
end
/-- what is tracked of an argument's object -/
def hoOf (o : Obj) : Option HO := match o.data with
  | .seq vs _ => if (o.cls == Value.type "list") = true then some (.frz o (.lst (vs.toList.map toV))) else some (.frz o (.tup (vs.toList.map toV)))
  | _ => none
def argH (K : PySem.W.Frag) (h : Heap) (A : List Addr) : Hp := fun b => if b ∈ A then (if (K.lookup b).isNone = true then (h.get? b).bind hoOf else none) else none
/-- nothing is tracked but what is known to the object -/
def OnlyF (H : Hp) : Prop := ∀ b, H b = none ∨ ∃ o u, H b = some (.frz o u)
theorem hoOf_lst (vs : List Value) : hoOf { cls := .type "list", data := .seq vs.toArray } = some (.frz { cls := .type "list", data := .seq vs.toArray } (.lst (vs.map toV))) := by
  show (if (Value.type "list" == Value.type "list") = true then some (HO.frz { cls := .type "list", data := .seq vs.toArray } (.lst (vs.toArray.toList.map toV))) else some (HO.frz { cls := .type "list", data := .seq vs.toArray } (.tup (vs.toArray.toList.map toV)))) = _
  rw [if_pos (beq_self_eq_true _)]
theorem hoOf_tup (vs : List Value) : hoOf { cls := .type "tuple", data := .seq vs.toArray } = some (.frz { cls := .type "tuple", data := .seq vs.toArray } (.tup (vs.map toV))) := by
  show (if (Value.type "tuple" == Value.type "list") = true then some (HO.frz { cls := .type "tuple", data := .seq vs.toArray } (.lst (vs.toArray.toList.map toV))) else some (HO.frz { cls := .type "tuple", data := .seq vs.toArray } (.tup (vs.toArray.toList.map toV)))) = _
  rw [if_neg (by decide)]
section
variable {P : Program} {w : World} {K : PySem.W.Frag} {h : Heap} {A : List Addr}
theorem argH_at {b : Addr} {o : Obj} (hb : b ∈ A) (hk : K.lookup b = none) (e : h.get? b = some o) : argH K h A b = hoOf o := by
  unfold argH
  rw [if_pos hb, hk, if_pos (show (none : Option Obj).isNone = true from rfl), e] <;> rfl
theorem of_argH {b : Addr} {u : HO} (q : argH K h A b = some u) : b ∈ A ∧ K.lookup b = none := by
  unfold argH at q
  by_cases hb : b ∈ A
  · rw [if_pos hb] at q
    cases hk : K.lookup b with
    | none => exact ⟨hb, rfl⟩
    | some o =>
      rw [hk, if_neg (by simp)] at q
      cases q
  · rw [if_neg hb] at q
    cases q
/-- what stands tracked -/
theorem argH_is (ar : ∀ a ∈ A, ArgOb h A a) {b : Addr} {u : HO} (q : argH K h A b = some u) : K.lookup b = none ∧ ∃ vs : List Value, vs.length ≤ sizeLine ∧ (∀ u ∈ vs, OkU A u) ∧
    ((h.get? b = some { cls := .type "list", data := .seq vs.toArray } ∧ u = .frz { cls := .type "list", data := .seq vs.toArray } (.lst (vs.map toV))) ∨
     (h.get? b = some { cls := .type "tuple", data := .seq vs.toArray } ∧ u = .frz { cls := .type "tuple", data := .seq vs.toArray } (.tup (vs.map toV)))) := by
  obtain ⟨hb, hk⟩ := of_argH q
  obtain ⟨vs, h1, h2, h3⟩ := ar b hb
  refine ⟨hk, vs, h1, h2, ?_⟩
  rcases h3 with e | e
  · rw [argH_at hb hk e, hoOf_lst] at q
    exact .inl ⟨e, (Option.some.inj q).symm⟩
  · rw [argH_at hb hk e, hoOf_tup] at q
    exact .inr ⟨e, (Option.some.inj q).symm⟩
theorem argH_only (ar : ∀ a ∈ A, ArgOb h A a) : OnlyF (argH K h A) := fun b => by
  cases q : argH K h A b with
  | none => exact .inl rfl
  | some u =>
    obtain ⟨_, vs, _, _, ⟨_, e⟩ | ⟨_, e⟩⟩ := argH_is ar q
    · exact .inr ⟨_, _, by rw [e]⟩
    · exact .inr ⟨_, _, by rw [e]⟩
theorem argH_ok (ar : ∀ a ∈ A, ArgOb h A a) : HOk P w (argH K h A) h := fun b u q => by
  obtain ⟨_, vs, h1, h2, ⟨e, rfl⟩ | ⟨e, rfl⟩⟩ := argH_is ar q
  · exact ⟨e, by rw [List.length_map]; exact h1, vs, _, vals_toV h2, e⟩
  · exact ⟨e, by rw [List.length_map]; exact h1, vs, vals_toV h2, _, e, rfl, _, rfl⟩
theorem seq_inj {c c' : Value} {vs us : List Value} (e : (some { cls := c, data := .seq vs.toArray } : Option Obj) = some { cls := c', data := .seq us.toArray }) : c = c' ∧ vs = us := by
  have e1 := Option.some.inj e
  have e2 : c = c' := congrArg Obj.cls e1
  have e3 : Data.seq vs.toArray = Data.seq us.toArray := congrArg Obj.data e1
  injection e3 with e4
  refine ⟨e2, ?_⟩
  have e5 := congrArg Array.toList e4
  simpa using e5
/-- a list argument -/
theorem argL (KX : K.In h) (ar : ∀ a ∈ A, ArgOb h A a) {a : Addr} {vs : List Value} (ha : a ∈ A) (e : h.get? a = some { cls := .type "list", data := .seq vs.toArray }) : (∀ u ∈ vs, OkU A u) ∧ SqL K (argH K h A) a (vs.map toV) := by
  obtain ⟨us, h1, h2, h3⟩ := ar a ha
  have hu : us = vs := by
    rcases h3 with q | q
    · rw [e] at q
      exact (seq_inj q).2.symm
    · rw [e] at q
      exact absurd (Value.type.inj (seq_inj q).1) (by decide)
  subst hu
  refine ⟨h2, ?_⟩
  cases hk : K.lookup a with
  | none => exact .inl (.inr ⟨_, by rw [argH_at ha hk e, hoOf_lst]⟩)
  | some o =>
    have e2 := KX a o hk
    rw [e] at e2
    obtain rfl := Option.some.inj e2
    exact .inr ⟨_, us.toArray, _, hk, rfl, rfl, rfl, by rw [List.size_toArray]; exact h1, by simpa using vals_toV h2⟩
theorem argT (KX : K.In h) (ar : ∀ a ∈ A, ArgOb h A a) {a : Addr} {vs : List Value} (ha : a ∈ A) (e : h.get? a = some { cls := .type "tuple", data := .seq vs.toArray }) : (∀ u ∈ vs, OkU A u) ∧ SqT K (argH K h A) a (vs.map toV) := by
  obtain ⟨us, h1, h2, h3⟩ := ar a ha
  have hu : us = vs := by
    rcases h3 with q | q
    · rw [e] at q
      exact absurd (Value.type.inj (seq_inj q).1) (by decide)
    · rw [e] at q
      exact (seq_inj q).2.symm
  subst hu
  refine ⟨h2, ?_⟩
  cases hk : K.lookup a with
  | none => exact .inl (.inr ⟨_, by rw [argH_at ha hk e, hoOf_tup]⟩)
  | some o =>
    have e2 := KX a o hk
    rw [e] at e2
    obtain rfl := Option.some.inj e2
    exact .inr ⟨_, us.toArray, _, hk, rfl, rfl, by rw [List.size_toArray]; exact h1, by simpa using vals_toV h2⟩
mutual
theorem dw_one {Pm : Params} (KX : K.In h) (ar : ∀ a ∈ A, ArgOb h A a) : ∀ (d : WData) (v : Value), Well Pm h v d → plW d = true → OkU A v → Dw K (argH K h A) (toV v) d
  | .none, _, x, _, _ => by
    cases x
    exact .non
  | .bool b, _, x, _, _ => by
    cases x
    exact .bl b
  | .int i, _, x, _, _ => by
    cases x
    exact .int i
  | .str s, _, x, _, _ => by
    cases x
    exact .str s
  | .bytes b, _, x, _, _ => by
    cases x
    have z := Dw.byt (K := K) (H := argH K h A) b.toArray
    exact z
  | .list ds, _, x, p, hu => by
    obtain ⟨a, vs, rfl, ho, hall⟩ := well_list x
    obtain ⟨h2, hs⟩ := argL KX ar hu ho
    exact .lst hs (dw_all KX ar ds _ hall p h2)
  | .tuple ds, _, x, p, hu => by
    obtain ⟨a, vs, rfl, ho, hall⟩ := well_tuple x
    obtain ⟨h2, hs⟩ := argT KX ar hu ho
    exact .tup hs (dw_all KX ar ds _ hall p h2)
  | .float _, _, _, p, _ => Bool.noConfusion (show false = true from p)
  | .dict _, _, _, p, _ => Bool.noConfusion (show false = true from p)
  | .bytearray _, _, _, p, _ => Bool.noConfusion (show false = true from p)
  | .set _, _, _, p, _ => Bool.noConfusion (show false = true from p)
  | .frozenset _, _, _, p, _ => Bool.noConfusion (show false = true from p)
  | .obj _ _, _, _, p, _ => Bool.noConfusion (show false = true from p)
theorem dw_all {Pm : Params} (KX : K.In h) (ar : ∀ a ∈ A, ArgOb h A a) : ∀ (ds : List WData) (vs : List Value), WellAll Pm h vs ds → plWs ds = true → (∀ u ∈ vs, OkU A u) → DwAll K (argH K h A) (vs.map toV) ds
  | [], _, x, _, _ => by
    cases x
    exact .nil
  | d :: ds, _, x, p, hu => by
    obtain ⟨v, vs, rfl, x1, x2⟩ := well_cons x
    have q : plW d = true ∧ plWs ds = true := Bool.and_eq_true_iff.mp p
    exact .cons (dw_one KX ar d v x1 q.1 (hu _ (List.mem_cons_self ..))) (dw_all KX ar ds vs x2 q.2 fun u m => hu u (List.mem_cons_of_mem _ m))
end
end
/-! ### the call -/
theorem spec_call {P : Program} {w : World} {K : PySem.W.Frag} {mg mb : Str → Option Value} {CX : CXT} {k : Nat} {fa : Addr} {fd : FuncData} {ps : List Str} {sp : Sp} {s₁ : Shared} {vals : List Value} {ds : List WData} {R : PySem.W.WRecords} {cl : Str → Option Addr} {d0 : WData}
    (KX : K.In s₁.heap) (hns : s₁.heap.Ns mainGlobals mg) (hb : s₁.heap.Ns builtinsNs mb) (hbb : ∀ x : Str, x ≠ "__name__" → mb x = bootBuiltins x) (hlim : s₁.heap.NoLimit) (hg : s₁.gens = #[])
    (hwl : WellAll w.params s₁.heap vals ds) (hpl : plWs ds = true) (hwt : ∀ d ∈ ds, d.weight ≤ 1048576) (hr : Room k callerA)
    (F : ∀ base : Heap, K.In base → base.Ns mainGlobals mg → FnOk P w K mg base CX k fa fd ps sp) (hbind : ∀ (s : Shared) (us : List Value), us.length = ps.length → BindsTo s fd ⟨us, []⟩ (ps.zip us)) (hlen : ds.length = ps.length)
    (hsp : ∀ (H : Hp) (xs : List V), OnlyF H → DwAll K H xs ds → sp xs H (fun v H' => Dw K H' v d0) fun _ _ _ => False)
    (hCX : ∀ H e s', CX [] H s₁ (fun _ _ _ => False) e s' → False) :
    codeAny (model P w) callerA (.call (.ref fa) ⟨vals, []⟩) (fun r s' => ∃ u as, r = .ok (.ret u) ∧ ReadsW R cl s'.heap u d0 as ∧ OldK s₁.heap s'.heap ∧ s'.os = s₁.os ∧ AllBare s'.gens) s₁ := by
  obtain ⟨A, ho, ar⟩ := area_all ds vals hwl hpl hwt
  have hO : OnlyF (argH K s₁.heap A) := argH_only ar
  have hok : HOk P w (argH K s₁.heap A) s₁.heap := argH_ok ar
  have hS := dw_all KX ar ds vals hwl hpl ho
  have hV := vals_toV ho
  have hK : ∀ b u, argH K s₁.heap A b = some u → K.lookup b = none := fun b u q => (argH_is ar q).1
  have noA : ∀ {b : Addr} {o : Obj} {es : Array DictEntry} {ep : Nat}, s₁.heap.get? b = some o → o.data = .dict es ep → argH K s₁.heap A b = none := fun {b o es ep} e d => by
    cases q : argH K s₁.heap A b with
    | none => rfl
    | some u =>
      obtain ⟨_, vs, _, _, ⟨e2, _⟩ | ⟨e2, _⟩⟩ := argH_is ar q
      · rw [e2] at e
        cases e
        have d' : Data.seq vs.toArray _ = Data.dict es ep := d
        cases d'
      · rw [e2] at e
        cases e
        have d' : Data.seq vs.toArray _ = Data.dict es ep := d
        cases d'
  generalize argH K s₁.heap A = H at hO hok hS hK noA
  have base_of : ∀ {b : Addr} {o : Obj}, s₁.heap.get? b = some o → H b = none → (hidT s₁.heap H).get? b = some o := fun e n => hidT_get e n
  have nsK : ∀ {b : Addr} {m : Str → Option Value}, s₁.heap.Ns b m → (hidT s₁.heap H).Ns b m := fun {b m} ⟨o, es, ep, e, d, r⟩ => ⟨o, es, ep, base_of e (noA e d), d, r⟩
  have nK : ∀ b o, K.lookup b = some o → H b = none := fun b o e => by
    cases q : H b with
    | none => rfl
    | some u =>
      rw [hK b u q] at e
      cases e
  have hKb : K.In (hidT s₁.heap H) := fun b o e => base_of (KX b o e) (nK b o e)
  have hM : Mod K mg (hidT s₁.heap H) := ⟨hKb, nsK hns, ⟨mb, nsK hb, hbb⟩, let ⟨mc, h1, h2⟩ := hlim; ⟨mc, nsK h1, h2⟩⟩
  have e0 : Env0 P w K mg (hidT s₁.heap H) callerA [] s₁ H := ⟨rfl, hM, fun b o e => of_hidT e, Nat.le_of_eq (hidT_size _ _), trivial, fun b hb => absurd (show b ∈ ([] : List Addr) from hb) (by simp), hok, .of_eq hg⟩
  have hl : vals.length = ps.length := by rw [wellAll_len hwl]; exact hlen
  refine codeAny_mono ((F _ hKb (nsK hns)).run callerA [] s₁ H ⟨vals, []⟩ vals (vals.map toV) _ _ hr e0 (hbind s₁ vals hl) hV (hsp H _ hO hS)) fun r s' x => ?_
  cases r with
  | error e => exact (hCX H e s' x).elim
  | ok fl =>
    cases fl with
    | next => exact False.elim x
    | brk => exact False.elim x
    | cont => exact False.elim x
    | ret u =>
      obtain ⟨v, H', os, bare, un, hok', r', q⟩ := x
      have kept : ∀ b o, s₁.heap.get? b = some o → s'.heap.get? b = some o := fun b o e => by
        cases q2 : H b with
        | none => exact un.keep b o e q2 (by intro z; exact absurd (show b ∈ ([] : List Addr) from z) (by simp)) (by simp)
        | some u2 =>
          rcases hO b with z | ⟨ob, u3, z⟩
          · rw [q2] at z
            cases z
          · have z2 := un.frzs b ob _ z
            obtain ⟨e1, _⟩ := hok b _ z
            obtain ⟨e2, _⟩ := hok' b _ z2
            rw [e] at e1
            cases e1
            exact e2
      have KX' : K.In s'.heap := fun b o e => kept b o (KX b o e)
      obtain ⟨as, hrd⟩ := Dw.reads (R := R) (cl := cl) hok' KX' d0 v u q r'
      exact ⟨u, as, rfl, hrd, OldK.of_keep kept, os, bare⟩
/-! ### the row -/
theorem layable_weight {ds : List WData} (h : WData.layableAll ds = true) : ∀ d ∈ ds, d.weight ≤ 1048576 := fun d hd =>
  (PySem.W.layableW_iff.mp (List.all_eq_true.mp h d hd)).2.2
theorem encAll_len : ∀ (cs : List Codec) (a : Codec.denoteAll cs), (Codec.encAll cs a).length = cs.length
  | [], _ => rfl
  | c :: cs, a => by
    show (Codec.encAll cs a.2).length + 1 = cs.length + 1
    rw [encAll_len cs a.2]
/-- the goal that k_headS leaves (case hc), from the promise of the row's def: whatever the arguments that the codecs let and the row asks for, the def gives what stands for enc (f ..) -/
theorem walk_spec {r : OpenSpec} {k : Nat} {q : Program} {loose : List Str} {XP : (Str → Option Value) → Heap → Prop} {YP : World → Heap → Prop} {d : DefRec} {K : Params → PySem.W.Frag} {CX : World → CXT} {ps : List Str} {sp : World → Sp}
    (hwell : r.wellSaid = true) (hdf : d.params.defaults = []) (hlen : r.args.length = ps.length) (hr : Room k callerA)
    (hY : ∀ (w : World) (h : Heap), YP w h → (K w.params).In h)
    (F : ∀ (w : World) (mg : Str → Option Value) (fa : Addr) (h : Heap), YP w h → (K w.params).In h → h.Ns mainGlobals mg → mg d.name = some (.ref fa) →
      ∃ fd : FuncData, (∀ (s : Shared) (us : List Value), us.length = ps.length → BindsTo s fd ⟨us, []⟩ (ps.zip us)) ∧
        ∀ base : Heap, (K w.params).In base → base.Ns mainGlobals mg → FnOk r.prog w (K w.params) mg base (CX w) k fa fd ps (sp w))
    (hsp : ∀ (w : World) (H : Hp) (xs : List V) (a : Codec.denoteAll r.args), OnlyF H → Codec.withinAll r.args a = true → Codec.app r.args r.asked a = true → DwAll (K w.params) H xs (Codec.encAll r.args a) →
      sp w xs H (fun v H' => Dw (K w.params) H' v (r.ret.enc (Codec.app r.args r.f a))) fun _ _ _ => False)
    (hCX : ∀ (w : World) (H : Hp) (s : Shared) (e : Value) (s' : Shared), CX w [] H s (fun _ _ _ => False) e s' → False) :
    PySem.W.WalkOS q loose XP YP r d [] (fun f vs => PySem.call f vs) := by
  intro w s_0 s₁ mg mb G Y fa o pm cd doc dV kV ho hd hcd hD hmg hg args vals as hpre hlay hrd hwl hlo
  obtain ⟨a, e1, e2⟩ := PySem.W.os_pre_some hpre
  obtain ⟨e3, hwi⟩ := Codec.encAll_of_decAll r.args args a e1
  subst e3
  have KX := hY w _ Y
  obtain ⟨fd, hb, hF⟩ := F w mg fa _ Y KX G.T.g hmg
  refine PySem.W.enter_call (codeAny_mono (spec_call (R := []) (cl := classAt s_0.heap) (d0 := r.ret.enc (Codec.app r.args r.f a)) KX G.T.g G.T.b G.T.builtins G.T.nolimit hg hwl (pl_encAll _ _) (layable_weight hlay) hr hF hb (by rw [encAll_len]; exact hlen)
    (fun H xs hO hS => hsp w H xs a hO hwi e2 hS) fun H e s' => hCX w H s₁ e s') fun r' s' hq => ?_)
  obtain ⟨u, as', rfl, h1, h2, h3, h4⟩ := hq
  exact ⟨.inl ⟨u, _, as', rfl, fun _ => rfl, h1, (OpenSpec.post_iff hwell hwi _ _).mpr rfl, fun z => Bool.noConfusion (show false = true from z)⟩, h2, h3, h4⟩
/-- the same where the promise hangs on the written part alone -/
theorem walk_specK {r : OpenSpec} {k : Nat} {q : Program} {loose : List Str} {XP : (Str → Option Value) → Heap → Prop} {YP : World → Heap → Prop} {d : DefRec} {K : Params → PySem.W.Frag} {CX : CXT} {ps : List Str} {sp : PySem.W.Frag → Sp}
    (hwell : r.wellSaid = true) (hdf : d.params.defaults = []) (hlen : r.args.length = ps.length) (hr : Room k callerA)
    (hY : ∀ (w : World) (h : Heap), YP w h → (K w.params).In h)
    (F : ∀ (w : World) (mg : Str → Option Value) (fa : Addr) (h : Heap), YP w h → (K w.params).In h → h.Ns mainGlobals mg → mg d.name = some (.ref fa) →
      ∃ fd : FuncData, (∀ (s : Shared) (us : List Value), us.length = ps.length → BindsTo s fd ⟨us, []⟩ (ps.zip us)) ∧
        ∀ base : Heap, (K w.params).In base → base.Ns mainGlobals mg → FnOk r.prog w (K w.params) mg base CX k fa fd ps (sp (K w.params)))
    (hsp : ∀ (K : PySem.W.Frag) (H : Hp) (xs : List V) (a : Codec.denoteAll r.args), OnlyF H → Codec.withinAll r.args a = true → Codec.app r.args r.asked a = true → DwAll K H xs (Codec.encAll r.args a) →
      sp K xs H (fun v H' => Dw K H' v (r.ret.enc (Codec.app r.args r.f a))) fun _ _ _ => False)
    (hCX : ∀ (H : Hp) (s : Shared) (e : Value) (s' : Shared), CX [] H s (fun _ _ _ => False) e s' → False) :
    PySem.W.WalkOS q loose XP YP r d [] (fun f vs => PySem.call f vs) :=
  walk_spec (K := K) (CX := fun _ => CX) (sp := fun w => sp (K w.params)) hwell hdf hlen hr hY F (fun w H xs a h1 h2 h3 h4 => hsp (K w.params) H xs a h1 h2 h3 h4) fun _ H s e s' => hCX H s e s'
end L2
-- rests on (row put in by the clerk, for the bench that shows a file only what it spells): KE.SpHead KE.OsShapes
end

set_option linter.all false
namespace W
open Sv41
theorem total_snoc (l : List Nat) (x : Nat) : total (l ++ [x]) = add (total l) x := by
  unfold total; rw [List.foldl_append]; rfl
theorem total_range_succ (f : Nat → Nat) (j : Nat) : total ((List.range (j + 1)).map f) = add (total ((List.range j).map f)) (f j) := by
  rw [List.range_succ, List.map_append, List.map_cons, List.map_nil, total_snoc]
theorem add_mul_int (t m c : Nat) : ((add t (mul m c) : Nat) : Int) = ((t : Int) + (m : Int) * (c : Int)) % 65521 := by
  have e : add t (mul m c) = (t + m * c) % 65521 := by
    unfold add mul P; omega
  rw [e, Int.natCast_emod, Int.natCast_add, Int.natCast_mul]; rfl
theorem times_get (k : Nat) (a r : List Nat) : (times k a r).length = k := by unfold times; simp
theorem times_take_succ (k : Nat) (a r : List Nat) (i : Nat) (h : i < k) :
    (times k a r).take (i + 1) = (times k a r).take i ++ [total ((List.range k).map fun j => mul (a.getD (k * i + j) 0) (r.getD j 0))] := by
  unfold times
  rw [← List.map_take, ← List.map_take, List.take_range, List.take_range, Nat.min_eq_left (by omega), Nat.min_eq_left (by omega), List.range_succ, List.map_append]; rfl
theorem numbers_append (a b : List Nat) : numbers (a ++ b) = (numbers a && numbers b) := by unfold numbers; exact List.all_append
theorem add_lt (a b : Nat) : add a b < 65521 := Nat.mod_lt _ (by decide)
theorem total_lt (l : List Nat) : total l < 65521 := by
  rcases List.eq_nil_or_concat l with rfl | ⟨l', x, rfl⟩
  · show 0 < 65521; decide
  · rw [List.concat_eq_append, total_snoc]; exact add_lt _ _
theorem times_lt (k : Nat) (a r : List Nat) : ∀ x ∈ times k a r, x < 65521 := by
  unfold times; intro x hx
  obtain ⟨i, _, rfl⟩ := List.mem_map.mp hx
  exact total_lt _
end W

set_option linter.all false
namespace W
open Sv41
/-- the gates' bytes, four by four -/
def chunks (g : Nat) (b : List Nat) : List (List Nat) := (List.range g).map fun j => (b.drop (4 * j)).take 4
/-- the circuit of rows of four bytes, behind i others -/
def cf (n : Nat) : Nat → List (List Nat) → Option Circuit
  | _, [] => some []
  | i, b :: r => (gateOf n i b).bind fun g => (cf n (i + 1) r).map fun c => g :: c
theorem chunks_succ (g : Nat) (b : List Nat) : chunks (g + 1) b = b.take 4 :: chunks g (b.drop 4) := by
  unfold chunks
  rw [List.range_succ_eq_map, List.map_cons, List.map_map]
  congr 1
  apply List.map_congr_left
  intro j _
  show (b.drop (4 * (j + 1))).take 4 = ((b.drop 4).drop (4 * j)).take 4
  rw [List.drop_drop]; congr 2; omega
theorem cf_chunks (n : Nat) : ∀ (g i : Nat) (b : List Nat), circuitFrom n g i b = cf n i (chunks g b)
  | 0, i, b => rfl
  | g + 1, i, b => by
    rw [chunks_succ]
    show (gateOf n i (b.take 4)).bind _ = (gateOf n i (b.take 4)).bind _
    congr 1; funext x
    rw [cf_chunks n g (i + 1) (b.drop 4)]
theorem cf_snoc (n : Nat) : ∀ (l : List (List Nat)) (i : Nat) (b : List Nat), cf n i (l ++ [b]) = (cf n i l).bind fun c => (gateOf n (i + l.length) b).map fun g => c ++ [g]
  | [], i, b => by
    show (gateOf n i b).bind (fun g => (some []).map fun c => g :: c) = (gateOf n (i + 0) b).map fun g => [g]
    cases gateOf n i b <;> rfl
  | a :: l, i, b => by
    show (gateOf n i a).bind (fun g => (cf n (i + 1) (l ++ [b])).map fun c => g :: c) = ((gateOf n i a).bind fun g => (cf n (i + 1) l).map fun c => g :: c).bind _
    rw [cf_snoc n l (i + 1) b]
    have e : i + 1 + l.length = i + (a :: l).length := by simp; omega
    rw [e]
    cases gateOf n i a with
    | none => rfl
    | some g =>
      cases cf n (i + 1) l with
      | none => rfl
      | some c => cases gateOf n (i + (a :: l).length) b <;> rfl
/-- one more gate is read -/
theorem cf_take_succ {n : Nat} {gs : List (List Nat)} {i : Nat} {b : List Nat} (h : gs[i]? = some b) : cf n 0 (gs.take (i + 1)) = (cf n 0 (gs.take i)).bind fun c => (gateOf n i b).map fun g => c ++ [g] := by
  have hi : i < gs.length := (List.getElem?_eq_some_iff.mp h).1
  have e : gs.take (i + 1) = gs.take i ++ [b] := by rw [List.take_succ, h]; rfl
  rw [e, cf_snoc, List.length_take, Nat.min_eq_left (by omega), Nat.zero_add]
theorem cf_none_of {n : Nat} : ∀ {l r : List (List Nat)} {i : Nat}, cf n i l = none → cf n i (l ++ r) = none
  | [], r, i, h => by cases h
  | a :: l, r, i, h => by
    show ((gateOf n i a).bind fun g => (cf n (i + 1) (l ++ r)).map fun c => g :: c) = none
    have h' : ((gateOf n i a).bind fun g => (cf n (i + 1) l).map fun c => g :: c) = none := h
    cases e : gateOf n i a with
    | none => rfl
    | some g =>
      rw [e] at h'
      cases e2 : cf n (i + 1) l with
      | none => show ((cf n (i + 1) (l ++ r)).map fun c => g :: c) = none; rw [cf_none_of e2]; rfl
      | some c => rw [e2] at h'; cases h'
theorem cf_len {n : Nat} : ∀ {l : List (List Nat)} {i : Nat} {c : Circuit}, cf n i l = some c → c.length = l.length
  | [], i, c, h => by cases h; rfl
  | a :: l, i, c, h => by
    have h' : ((gateOf n i a).bind fun g => (cf n (i + 1) l).map fun c => g :: c) = some c := h
    cases e : gateOf n i a with
    | none => rw [e] at h'; cases h'
    | some g =>
      rw [e] at h'
      cases e2 : cf n (i + 1) l with
      | none => rw [e2] at h'; cases h'
      | some d =>
        rw [e2] at h'
        have e3 : g :: d = c := Option.some.inj h'
        rw [← e3, List.length_cons, List.length_cons, cf_len e2]
/-- the gates, one by one -/
theorem cf_get {n : Nat} : ∀ {l : List (List Nat)} {i : Nat} {c : Circuit}, cf n i l = some c → ∀ (j : Nat) (b : List Nat), l[j]? = some b → ∃ g, gateOf n (i + j) b = some g ∧ c[j]? = some g
  | [], i, c, h, j, b, hb => by simp at hb
  | a :: l, i, c, h, j, b, hb => by
    have h' : ((gateOf n i a).bind fun g => (cf n (i + 1) l).map fun c => g :: c) = some c := h
    cases e : gateOf n i a with
    | none => rw [e] at h'; cases h'
    | some g =>
      rw [e] at h'
      cases e2 : cf n (i + 1) l with
      | none => rw [e2] at h'; cases h'
      | some d =>
        rw [e2] at h'
        have e3 : g :: d = c := Option.some.inj h'
        subst e3
        match j, hb with
        | 0, hb =>
          have e4 : a = b := Option.some.inj hb
          subst e4
          exact ⟨g, e, rfl⟩
        | j + 1, hb =>
          obtain ⟨g', h1, h2⟩ := cf_get e2 j b hb
          exact ⟨g', by rw [← h1]; congr 1; omega, h2⟩
/-- what each gate makes, one more -/
theorem through_take_succ (f : List Nat → Gate → Nat) {c : Circuit} {i : Nat} {g : Gate} (h : c[i]? = some g) : through f (c.take (i + 1)) = through f (c.take i) ++ [f (through f (c.take i)) g] := by
  have e : c.take (i + 1) = c.take i ++ [g] := by rw [List.take_succ, h]; rfl
  rw [e]; unfold through; rw [List.foldl_append]; rfl
theorem through_len (f : List Nat → Gate → Nat) (c : Circuit) : (through f c).length = c.length := by
  have h : ∀ (c : Circuit) (w : List Nat), (c.foldl (fun w g => w ++ [f w g]) w).length = w.length + c.length := by
    intro c
    induction c with
    | nil => intro w; rfl
    | cons g c ih => intro w; rw [List.foldl_cons, ih, List.length_append, List.length_cons]; simp; omega
  unfold through; rw [h]; simp
/-- the steps -/
def dstep (v : Option Nat) : List Nat → Gate → Nat := fun w g => match g with
  | .var a => if v = none ∨ v = some a then 1 else 0
  | .num _ => 0
  | .sum a b => max (w.getD a 0) (w.getD b 0)
  | .less a b => max (w.getD a 0) (w.getD b 0)
  | .prod a b => w.getD a 0 + w.getD b 0
def vstep (x : List Nat) : List Nat → Gate → Nat := fun w g => match g with
  | .var a => x.getD a 0 % P
  | .num n => n % P
  | .sum a b => add (w.getD a 0) (w.getD b 0)
  | .less a b => sub (w.getD a 0) (w.getD b 0)
  | .prod a b => mul (w.getD a 0) (w.getD b 0)
theorem degreesOf_eq (v : Option Nat) (c : Circuit) : degreesOf v c = through (dstep v) c := rfl
theorem valuesOf_eq (c : Circuit) (x : List Nat) : valuesOf c x = through (vstep x) c := rfl
/-- what four bytes are: by cases -/
theorem gateOf_cases (n i x0 x1 x2 x3 : Nat) : gateOf n i [x0, x1, x2, x3] =
    if x0 = 0 then (if x1 < n ∧ x2 = 0 ∧ x3 = 0 then some (.var x1) else none)
    else if x0 = 1 then (if x1 = 0 ∧ x2 + 256 * x3 < P then some (.num (x2 + 256 * x3)) else none)
    else if x1 < i ∧ x2 < i ∧ x3 = 0 then (if x0 = 2 then some (.sum x1 x2) else if x0 = 3 then some (.less x1 x2) else if x0 = 4 then some (.prod x1 x2) else none)
    else none := rfl
theorem len4 {b : List Nat} (h : b.length = 4) : ∃ x0 x1 x2 x3, b = [x0, x1, x2, x3] := by
  match b, h with
  | [a, b, c, d], _ => exact ⟨a, b, c, d, rfl⟩
theorem chunks_len (g : Nat) (b : List Nat) : (chunks g b).length = g := by unfold chunks; simp
theorem chunks_get {g : Nat} {b : List Nat} {j : Nat} (h : j < g) : (chunks g b)[j]? = some ((b.drop (4 * j)).take 4) := by
  unfold chunks; rw [List.getElem?_map, List.getElem?_range h]; rfl
theorem chunks_four {g : Nat} {b : List Nat} (hb : b.length = 4 * g) : ∀ r ∈ chunks g b, r.length = 4 := by
  intro r hr
  obtain ⟨j, hj, rfl⟩ := List.mem_map.mp hr
  have hj := List.mem_range.mp hj
  rw [List.length_take, List.length_drop]; omega
theorem mem_chunks {g : Nat} {b r : List Nat} (hr : r ∈ chunks g b) : ∀ x ∈ r, x ∈ b := by
  obtain ⟨j, hj, rfl⟩ := List.mem_map.mp hr
  intro x hx
  exact List.mem_of_mem_drop (List.mem_of_mem_take hx)
end W

set_option linter.all false
namespace W
open Sv41
theorem row_says {n bound : Int} {l : List Int} (h : Sv41Neutral.row n bound l = true) : (l.length : Int) = n ∧ ∀ x ∈ l, 0 ≤ x ∧ x < bound := by
  unfold Sv41Neutral.row at h
  simp only [Bool.and_eq_true, decide_eq_true_eq, List.all_eq_true] at h
  exact h
theorem many_in {z lo hi n : Int} (h1 : lo ≤ z) (h2 : z ≤ hi) : Sv41Neutral.many z lo hi n = n := by
  unfold Sv41Neutral.many Sv41Neutral.ok
  rw [if_pos (by simp [h1, h2])]
theorem many_out {z lo hi n : Int} (h : ¬ (lo ≤ z ∧ z ≤ hi)) : Sv41Neutral.many z lo hi n = 0 := by
  unfold Sv41Neutral.many Sv41Neutral.ok
  rw [if_neg (by simpa using h)]
theorem nats_length (l : List Int) : (Sv41Neutral.nats l).length = l.length := by unfold Sv41Neutral.nats; simp
theorem nats_lt {l : List Int} {b : Nat} (h : ∀ x ∈ l, 0 ≤ x ∧ x < (b : Int)) : ∀ x ∈ Sv41Neutral.nats l, x < b := by
  intro x hx
  obtain ⟨y, hy, rfl⟩ := List.mem_map.mp hx
  have := h y hy
  omega
theorem product_l (k : Int) (a b c r : List Nat) : (does (.product k a b c r)).l = [] := by
  unfold does
  simp only []
  split
  · rfl
  · split <;> rfl
theorem ofCircuit_l {b : List Nat} {g n : Int} {f : Circuit → Ans} (h : ∀ c, (f c).l = []) : (ofCircuit b g n f).l = [] := by
  unfold ofCircuit
  split
  · rfl
  · split
    · rfl
    · exact h _
/-- an answer that is a number alone -/
theorem f_alone {c : Sv41Neutral.Call} {x : Sv41.Call} (h : Sv41Neutral.callOf c = some x) (hl : (does x).l = []) : Sv41Neutral.f c = [(does x).v] := by
  unfold Sv41Neutral.f
  rw [h]
  show (does x).v :: Sv41Neutral.ints (does x).l = _
  rw [hl]; rfl
theorem product_asked {k : Int} {a b c r : List Int} (h : PySv41.ch_product_asked k a b c r = true) :
    (∀ x ∈ a, 0 ≤ x ∧ x < 65536) ∧ (∀ x ∈ b, 0 ≤ x ∧ x < 65536) ∧ (∀ x ∈ c, 0 ≤ x ∧ x < 65536) ∧ (∀ x ∈ r, 0 ≤ x ∧ x < 65536) ∧
    (1 ≤ k → k ≤ 64 → a.length = k.toNat * k.toNat ∧ b.length = k.toNat * k.toNat ∧ c.length = k.toNat * k.toNat ∧ r.length = k.toNat) := by
  unfold PySv41.ch_product_asked Sv41Neutral.asked Sv41Neutral.asked1 at h
  simp only [Bool.and_eq_true, List.all_cons, List.all_nil, Bool.and_true] at h
  obtain ⟨_, ⟨ha, hb, hc⟩, hr⟩ := h
  obtain ⟨la, ba⟩ := row_says ha
  obtain ⟨lb, bb⟩ := row_says hb
  obtain ⟨lc, bc⟩ := row_says hc
  obtain ⟨lr, br⟩ := row_says hr
  refine ⟨ba, bb, bc, br, fun h1 h2 => ?_⟩
  rw [many_in h1 h2] at la lb lc lr
  obtain ⟨n, rfl⟩ := Int.eq_ofNat_of_zero_le (show 0 ≤ k by omega)
  have e : ((n * n : Nat) : Int) = (n : Int) * (n : Int) := by simp
  rw [← e] at la lb lc
  show a.length = n * n ∧ b.length = n * n ∧ c.length = n * n ∧ r.length = n
  omega
end W

set_option linter.all false
namespace W
open Sv41
def okdeg (n : Nat) (c : Circuit) : Bool := ((degreesOf none c).all fun d => decide (d ≤ 255)) && (List.range n).all fun v => (degreesOf (some v) c).all fun d => decide (d ≤ 15)
/-- a circuit of rows of four bytes, its degrees told -/
def circ (n : Nat) (rows : List (List Nat)) : Option Circuit := (cf n 0 rows).filter (okdeg n)
theorem circuit_eq (n g : Nat) (b : List Nat) : circuit n g b = circ n (chunks g b) := by
  unfold circuit circ
  rw [cf_chunks]; rfl
theorem sizes_iff (g n : Int) : sizes g n = decide (1 ≤ g ∧ g ≤ 64 ∧ 1 ≤ n ∧ n ≤ 12) := by
  unfold sizes within
  by_cases h1 : 1 ≤ g <;> by_cases h2 : g ≤ 64 <;> by_cases h3 : 1 ≤ n <;> by_cases h4 : n ≤ 12 <;> simp [h1, h2, h3, h4]
theorem ofCircuit_v (b : List Nat) (g n : Int) (f : Circuit → Ans) : ofCircuit b g n f = if 1 ≤ g ∧ g ≤ 64 ∧ 1 ≤ n ∧ n ≤ 12 then (match circ n.toNat (chunks g.toNat b) with
    | none => ok (-3)
    | some c => f c) else ok (-2) := by
  unfold ofCircuit
  rw [sizes_iff, circuit_eq]
  by_cases h : 1 ≤ g ∧ g ≤ 64 ∧ 1 ≤ n ∧ n ≤ 12
  · rw [if_pos h, if_neg (by simp [h])]
    cases circ n.toNat (chunks g.toNat b) <;> rfl
  · rw [if_neg h, if_pos (by simp only [h, decide_false])]
theorem value_v (b : List Nat) (g n : Int) (x : List Nat) : (does (.value b g n x)).v = if 1 ≤ g ∧ g ≤ 64 ∧ 1 ≤ n ∧ n ≤ 12 then (match circ n.toNat (chunks g.toNat b) with
    | none => -3
    | some c => if numbers x = true then ((value c x : Nat) : Int) else -3) else -2 := by
  show (ofCircuit b g n _).v = _
  rw [ofCircuit_v]
  split
  · split
    · rfl
    · by_cases hx : numbers x = true
      · rw [if_pos hx, if_neg (by simp [hx])]; rfl
      · rw [if_neg hx, if_pos (by simpa using hx)]; rfl
  · rfl
theorem value_l (b : List Nat) (g n : Int) (x : List Nat) : (does (.value b g n x)).l = [] := by
  show (ofCircuit b g n _).l = []
  exact ofCircuit_l fun c => by split <;> rfl
theorem gateOf_inv {n i x0 x1 x2 x3 : Nat} {g : Gate} (h : gateOf n i [x0, x1, x2, x3] = some g) :
    (x0 = 0 ∧ x1 < n ∧ x2 = 0 ∧ x3 = 0 ∧ g = .var x1) ∨ (x0 = 1 ∧ x1 = 0 ∧ x2 + 256 * x3 < 65521 ∧ g = .num (x2 + 256 * x3)) ∨
    (x1 < i ∧ x2 < i ∧ x3 = 0 ∧ ((x0 = 2 ∧ g = .sum x1 x2) ∨ (x0 = 3 ∧ g = .less x1 x2) ∨ (x0 = 4 ∧ g = .prod x1 x2))) := by
  rw [gateOf_cases] at h
  by_cases h0 : x0 = 0
  · rw [if_pos h0] at h
    by_cases h1 : x1 < n ∧ x2 = 0 ∧ x3 = 0
    · rw [if_pos h1] at h
      exact .inl ⟨h0, h1.1, h1.2.1, h1.2.2, (Option.some.inj h).symm⟩
    · rw [if_neg h1] at h; cases h
  · rw [if_neg h0] at h
    by_cases h1 : x0 = 1
    · rw [if_pos h1] at h
      by_cases h2 : x1 = 0 ∧ x2 + 256 * x3 < P
      · rw [if_pos h2] at h
        exact .inr (.inl ⟨h1, h2.1, h2.2, (Option.some.inj h).symm⟩)
      · rw [if_neg h2] at h; cases h
    · rw [if_neg h1] at h
      by_cases h2 : x1 < i ∧ x2 < i ∧ x3 = 0
      · rw [if_pos h2] at h
        refine .inr (.inr ⟨h2.1, h2.2.1, h2.2.2, ?_⟩)
        by_cases h3 : x0 = 2
        · rw [if_pos h3] at h; exact .inl ⟨h3, (Option.some.inj h).symm⟩
        · rw [if_neg h3] at h
          by_cases h4 : x0 = 3
          · rw [if_pos h4] at h; exact .inr (.inl ⟨h4, (Option.some.inj h).symm⟩)
          · rw [if_neg h4] at h
            by_cases h5 : x0 = 4
            · rw [if_pos h5] at h; exact .inr (.inr ⟨h5, (Option.some.inj h).symm⟩)
            · rw [if_neg h5] at h; cases h
      · rw [if_neg h2] at h; cases h
theorem gateOf_some (n i x0 x1 x2 x3 : Nat) : (gateOf n i [x0, x1, x2, x3]).isSome = 
    if x0 = 0 then decide (x1 < n ∧ x2 = 0 ∧ x3 = 0) else if x0 = 1 then decide (x1 = 0 ∧ x2 + 256 * x3 < 65521) else if x0 = 2 ∨ x0 = 3 ∨ x0 = 4 then decide (x1 < i ∧ x2 < i ∧ x3 = 0) else false := by
  rw [gateOf_cases]
  by_cases h0 : x0 = 0
  · rw [if_pos h0, if_pos h0]
    by_cases h1 : x1 < n ∧ x2 = 0 ∧ x3 = 0
    · rw [if_pos h1, decide_eq_true h1]; rfl
    · rw [if_neg h1, decide_eq_false h1]; rfl
  · rw [if_neg h0, if_neg h0]
    by_cases h1 : x0 = 1
    · rw [if_pos h1, if_pos h1]
      by_cases h2 : x1 = 0 ∧ x2 + 256 * x3 < 65521
      · rw [if_pos (show x1 = 0 ∧ x2 + 256 * x3 < P from h2), decide_eq_true h2]; rfl
      · rw [if_neg (show ¬ (x1 = 0 ∧ x2 + 256 * x3 < P) from h2), decide_eq_false h2]; rfl
    · rw [if_neg h1, if_neg h1]
      by_cases h2 : x1 < i ∧ x2 < i ∧ x3 = 0
      · rw [if_pos h2, decide_eq_true h2]
        by_cases h3 : x0 = 2
        · rw [if_pos h3, if_pos (.inl h3)]; rfl
        · rw [if_neg h3]
          by_cases h4 : x0 = 3
          · rw [if_pos h4, if_pos (.inr (.inl h4))]; rfl
          · rw [if_neg h4]
            by_cases h5 : x0 = 4
            · rw [if_pos h5, if_pos (.inr (.inr h5))]; rfl
            · rw [if_neg h5, if_neg (by omega)]; rfl
      · rw [if_neg h2, decide_eq_false h2]
        split <;> rfl
def cnt (n : Nat) (v : Option Nat) : List Nat := (List.range n).map fun a => if v = none ∨ v = some a then 1 else 0
theorem cnt_len (n : Nat) (v : Option Nat) : (cnt n v).length = n := by unfold cnt; simp
theorem cnt_get {n : Nat} {v : Option Nat} {a : Nat} (h : a < n) : (cnt n v).getD a 0 = if v = none ∨ v = some a then 1 else 0 := by
  unfold cnt
  rw [List.getD_eq_getElem?_getD, List.getElem?_map, List.getElem?_range h]; rfl
theorem sub_int (a b : Nat) : ((sub a b : Nat) : Int) = ((a : Int) - (b : Int)) % 65521 := by
  unfold sub P
  omega
theorem add_int (a b : Nat) : ((add a b : Nat) : Int) = ((a : Int) + (b : Int)) % 65521 := by
  unfold add P
  omega
theorem mul_int (a b : Nat) : ((mul a b : Nat) : Int) = ((a : Int) * (b : Int)) % 65521 := by
  unfold mul P
  rw [Int.natCast_emod, Int.natCast_mul]; rfl
theorem vstep_lt (x : List Nat) (w : List Nat) (g : Gate) : vstep x w g < 65521 := by
  unfold vstep
  split <;> exact Nat.mod_lt _ (by decide)
theorem through_lt (f : List Nat → Gate → Nat) {b : Nat} (h : ∀ w g, f w g < b) (c : Circuit) : ∀ y ∈ through f c, y < b := by
  have q : ∀ (c : Circuit) (w : List Nat), (∀ y ∈ w, y < b) → ∀ y ∈ c.foldl (fun w g => w ++ [f w g]) w, y < b := by
    intro c
    induction c with
    | nil => intro w hw; exact hw
    | cons g c ih =>
      intro w hw
      rw [List.foldl_cons]
      refine ih _ fun y hy => ?_
      rcases List.mem_append.mp hy with hy | hy
      · exact hw y hy
      · rw [List.mem_singleton.mp hy]; exact h _ _
  exact q c [] (fun y hy => by cases hy)
theorem numbers_get {x : List Nat} (h : numbers x = true) (a : Nat) : x.getD a 0 < 65521 := by
  unfold numbers at h
  rw [List.all_eq_true] at h
  rw [List.getD_eq_getElem?_getD]
  cases e : x[a]? with
  | none => show 0 < 65521; decide
  | some z => exact of_decide_eq_true (h z (List.mem_of_getElem? e))
/-- the greatest of a list against a bound -/
theorem all_le_of_max {l : List Nat} {m b : Nat} (hm : m ∈ l) (h : ∀ y ∈ l, y ≤ m) : (l.all fun d => decide (d ≤ b)) = decide (m ≤ b) := by
  by_cases q : m ≤ b
  · rw [decide_eq_true q, List.all_eq_true]
    intro y hy
    exact decide_eq_true (Nat.le_trans (h y hy) q)
  · rw [decide_eq_false q]
    cases e : (l.all fun d => decide (d ≤ b)) with
    | false => rfl
    | true => exact absurd (of_decide_eq_true (List.all_eq_true.mp e m hm)) q
theorem value_asked {n : Int} {code x : List Int} (h : PySv41.ch_value_asked n code x = true) :
    (∀ y ∈ code, 0 ≤ y ∧ y < 256) ∧ (∀ y ∈ x, 0 ≤ y ∧ y < 65536) ∧ (∃ g : Nat, code.length = 4 * g ∧ g ≤ 64) ∧ (1 ≤ n → n ≤ 12 → x.length = n.toNat) := by
  unfold PySv41.ch_value_asked Sv41Neutral.asked Sv41Neutral.asked1 at h
  simp only [Bool.and_eq_true, Sv41Neutral.circuit] at h
  obtain ⟨⟨_, _, hc⟩, hx⟩ := h
  obtain ⟨lc, bc⟩ := row_says hc
  obtain ⟨lx, bx⟩ := row_says hx
  refine ⟨bc, bx, ?_, fun h1 h2 => ?_⟩
  · by_cases hg : 1 ≤ (code.length : Int) / 4 ∧ (code.length : Int) / 4 ≤ 64
    · rw [many_in hg.1 hg.2] at lc
      exact ⟨code.length / 4, by omega, by omega⟩
    · rw [many_out hg] at lc
      exact ⟨0, by omega, by omega⟩
  · rw [many_in h1 h2] at lx
    omega
theorem gate_var {n i x0 x1 x2 x3 : Nat} {g : Gate} (h : gateOf n i [x0, x1, x2, x3] = some g) (h0 : x0 = 0) : x1 < n ∧ g = .var x1 := by
  rcases gateOf_inv h with ⟨_, h1, _, _, h2⟩ | ⟨e, _⟩ | ⟨_, _, _, h3⟩
  · exact ⟨h1, h2⟩
  · omega
  · rcases h3 with ⟨e, _⟩ | ⟨e, _⟩ | ⟨e, _⟩ <;> omega
theorem gate_num {n i x0 x1 x2 x3 : Nat} {g : Gate} (h : gateOf n i [x0, x1, x2, x3] = some g) (h0 : x0 = 1) : x2 + 256 * x3 < 65521 ∧ g = .num (x2 + 256 * x3) := by
  rcases gateOf_inv h with ⟨e, _⟩ | ⟨_, _, h1, h2⟩ | ⟨_, _, _, h3⟩
  · omega
  · exact ⟨h1, h2⟩
  · rcases h3 with ⟨e, _⟩ | ⟨e, _⟩ | ⟨e, _⟩ <;> omega
theorem gate_op {n i x0 x1 x2 x3 : Nat} {g : Gate} (h : gateOf n i [x0, x1, x2, x3] = some g) (h0 : ¬ x0 = 0) (h1 : ¬ x0 = 1) :
    x1 < i ∧ x2 < i ∧ ((x0 = 2 ∧ g = .sum x1 x2) ∨ (x0 = 3 ∧ g = .less x1 x2) ∨ (x0 = 4 ∧ g = .prod x1 x2)) := by
  rcases gateOf_inv h with ⟨e, _⟩ | ⟨e, _⟩ | ⟨h2, h3, _, h4⟩
  · exact absurd e h0
  · exact absurd e h1
  · exact ⟨h2, h3, h4⟩
theorem cnt_none (n : Nat) : cnt n none = List.replicate n 1 := by
  unfold cnt
  refine List.ext_getElem (by simp) fun i h1 h2 => by simp
theorem cnt_take_succ {n i : Nat} {v : Nat} (h : i < n) : (cnt n (some v)).take (i + 1) = (cnt n (some v)).take i ++ [if i = v then 1 else 0] := by
  unfold cnt
  rw [← List.map_take, ← List.map_take, List.take_range, List.take_range, Nat.min_eq_left (by omega), Nat.min_eq_left (by omega), List.range_succ, List.map_append, List.map_cons, List.map_nil]
  congr 2
  by_cases e : i = v
  · rw [if_pos e, if_pos (.inr (by rw [e]))]
  · rw [if_neg e, if_neg (by rintro (z | z); cases z; exact e (Option.some.inj z).symm)]
theorem circ_none {n : Nat} {rows : List (List Nat)} (h : cf n 0 rows = none) : circ n rows = none := by
  unfold circ
  rw [h]; rfl
theorem circ_some {n : Nat} {rows : List (List Nat)} {c : Circuit} (h : cf n 0 rows = some c) : circ n rows = if okdeg n c = true then some c else none := by
  unfold circ
  rw [h]; rfl
theorem circ_is {n : Nat} {rows : List (List Nat)} {c : Circuit} (h : cf n 0 rows = some c) : (circ n rows).isSome = okdeg n c := by
  rw [circ_some h]
  cases okdeg n c <;> rfl
theorem okdeg_all {n m : Nat} {c : Circuit} (h : ∀ v, v < n → ((degreesOf (some v) c).all fun d => decide (d ≤ 15)) = true) (h0 : ((degreesOf none c).all fun d => decide (d ≤ 255)) = true) : okdeg n c = true := by
  unfold okdeg
  rw [h0, Bool.true_and, List.all_eq_true]
  intro v hv
  exact h v (List.mem_range.mp hv)
theorem okdeg_no0 {n : Nat} {c : Circuit} (h0 : ((degreesOf none c).all fun d => decide (d ≤ 255)) = false) : okdeg n c = false := by
  unfold okdeg
  rw [h0, Bool.false_and]
theorem okdeg_no1 {n v : Nat} {c : Circuit} (hv : v < n) (h0 : ((degreesOf (some v) c).all fun d => decide (d ≤ 15)) = false) : okdeg n c = false := by
  unfold okdeg
  rw [Bool.and_eq_false_iff]
  right
  cases e : (List.range n).all fun v => (degreesOf (some v) c).all fun d => decide (d ≤ 15) with
  | false => rfl
  | true =>
    have := List.all_eq_true.mp e v (List.mem_range.mpr hv)
    rw [h0] at this
    cases this
theorem degrees_len (v : Option Nat) (c : Circuit) : (degreesOf v c).length = c.length := by
  rw [degreesOf_eq, through_len]
theorem circ_cf {n : Nat} {rows : List (List Nat)} {c : Circuit} (h : circ n rows = some c) : cf n 0 rows = some c := by
  cases e : cf n 0 rows with
  | none =>
    rw [circ_none e] at h
    cases h
  | some d =>
    rw [circ_some e] at h
    by_cases q : okdeg n d = true
    · rw [if_pos q] at h
      exact h
    · rw [if_neg q] at h
      cases h
end W

set_option linter.all false
namespace W
open Sv41
/-! ### calls that answer one number of a circuit -/
theorem ofCircuit_nat (b : List Nat) (g n : Int) (F : Circuit → Nat) : (ofCircuit b g n fun c => nat (F c)).v = if 1 ≤ g ∧ g ≤ 64 ∧ 1 ≤ n ∧ n ≤ 12 then (match circ n.toNat (chunks g.toNat b) with
    | none => -3
    | some c => ((F c : Nat) : Int)) else -2 := by
  rw [ofCircuit_v]
  split
  · cases circ n.toNat (chunks g.toNat b) <;> rfl
  · rfl
theorem degree_v (b : List Nat) (g n : Int) : (does (.degree b g n)).v = if 1 ≤ g ∧ g ≤ 64 ∧ 1 ≤ n ∧ n ≤ 12 then (match circ n.toNat (chunks g.toNat b) with
    | none => -3
    | some c => ((degree none c : Nat) : Int)) else -2 := ofCircuit_nat b g n _
theorem total_v (b : List Nat) (g n : Int) : (does (.total b g n)).v = if 1 ≤ g ∧ g ≤ 64 ∧ 1 ≤ n ∧ n ≤ 12 then (match circ n.toNat (chunks g.toNat b) with
    | none => -3
    | some c => ((sumAll c n.toNat : Nat) : Int)) else -2 := ofCircuit_nat b g n _
theorem each_v (b : List Nat) (g n : Int) : (does (.each b g n)).v = if 1 ≤ g ∧ g ≤ 64 ∧ 1 ≤ n ∧ n ≤ 12 then (match circ n.toNat (chunks g.toNat b) with
    | none => -3
    | some c => ((each n.toNat c : Nat) : Int)) else -2 := ofCircuit_nat b g n _
theorem degree_l (b : List Nat) (g n : Int) : (does (.degree b g n)).l = [] := ofCircuit_l fun _ => rfl
theorem total_l (b : List Nat) (g n : Int) : (does (.total b g n)).l = [] := ofCircuit_l fun _ => rfl
theorem each_l (b : List Nat) (g n : Int) : (does (.each b g n)).l = [] := ofCircuit_l fun _ => rfl
theorem circ_asked {n : Int} {code : List Int} (h : Sv41Neutral.circuit ((code.length : Int) / 4) n code = true) : (∀ y ∈ code, 0 ≤ y ∧ y < 256) ∧ ∃ g : Nat, code.length = 4 * g ∧ g ≤ 64 := by
  simp only [Bool.and_eq_true, Sv41Neutral.circuit] at h
  obtain ⟨_, _, hc⟩ := h
  obtain ⟨lc, bc⟩ := row_says hc
  refine ⟨bc, ?_⟩
  by_cases hg : 1 ≤ (code.length : Int) / 4 ∧ (code.length : Int) / 4 ≤ 64
  · rw [many_in hg.1 hg.2] at lc
    exact ⟨code.length / 4, by omega, by omega⟩
  · rw [many_out hg] at lc
    exact ⟨0, by omega, by omega⟩
/-! ### the greatest -/
theorem foldl_max (f : Nat → Nat) : ∀ (l : List Nat) (a : Nat), a ≤ l.foldl (fun d v => max d (f v)) a ∧ (∀ v ∈ l, f v ≤ l.foldl (fun d v => max d (f v)) a) ∧ (l.foldl (fun d v => max d (f v)) a = a ∨ ∃ v ∈ l, l.foldl (fun d v => max d (f v)) a = f v)
  | [], a => ⟨Nat.le_refl _, ⟨fun v h => (by cases h), .inl rfl⟩⟩
  | x :: l, a => by
    obtain ⟨h1, h2, h3⟩ := foldl_max f l (max a (f x))
    rw [List.foldl_cons]
    refine ⟨by omega, fun v hv => ?_, ?_⟩
    · rcases List.mem_cons.mp hv with rfl | hv
      · omega
      · exact h2 v hv
    · rcases h3 with h3 | ⟨v, hv, h3⟩
      · rw [h3]
        by_cases q : a ≤ f x
        · exact .inr ⟨x, List.mem_cons_self, by omega⟩
        · exact .inl (by omega)
      · exact .inr ⟨v, List.mem_cons_of_mem _ hv, h3⟩
theorem each_eq {n m : Nat} {c : Circuit} (hm : m ∈ (List.range n).map fun v => degree (some v) c) (h : ∀ y ∈ (List.range n).map fun v => degree (some v) c, y ≤ m) : each n c = m := by
  obtain ⟨h1, h2, h3⟩ := foldl_max (fun v => degree (some v) c) (List.range n) 0
  obtain ⟨v, hv, rfl⟩ := List.mem_map.mp hm
  have q1 := h2 v hv
  show (List.range n).foldl (fun d v => max d (degree (some v) c)) 0 = _
  rcases h3 with h3 | ⟨u, hu, h3⟩
  · rw [h3] at q1 ⊢
    omega
  · rw [h3] at q1 ⊢
    have := h _ (List.mem_map.mpr ⟨u, hu, rfl⟩)
    omega
theorem getLastD_mem {l : List Nat} (h : l ≠ []) : l.getLastD 0 ∈ l := by
  rcases List.eq_nil_or_concat l with rfl | ⟨l', x, rfl⟩
  · exact absurd rfl h
  · rw [List.concat_eq_append]; simp [List.getLastD_eq_getLast?]
theorem getLastD_le {l : List Nat} {b : Nat} (h : ∀ y ∈ l, y ≤ b) : l.getLastD 0 ≤ b := by
  by_cases e : l = []
  · rw [e]; exact Nat.zero_le _
  · exact h _ (getLastD_mem e)
theorem circ_ok {n : Nat} {rows : List (List Nat)} {c : Circuit} (h : circ n rows = some c) : okdeg n c = true := by
  have e := circ_cf h
  rw [circ_some e] at h
  by_cases q : okdeg n c = true
  · exact q
  · rw [if_neg q] at h; cases h
theorem each_le {n : Nat} {c : Circuit} (h : okdeg n c = true) : each n c ≤ 15 := by
  obtain ⟨h1, h2, h3⟩ := foldl_max (fun v => degree (some v) c) (List.range n) 0
  show (List.range n).foldl (fun d v => max d (degree (some v) c)) 0 ≤ _
  rcases h3 with h3 | ⟨u, hu, h3⟩
  · rw [h3]; omega
  · rw [h3]
    unfold okdeg at h
    rw [Bool.and_eq_true] at h
    have := List.all_eq_true.mp (List.all_eq_true.mp h.2 u hu)
    exact getLastD_le fun y hy => of_decide_eq_true (this y hy)
/-! ### all rows of 0s and 1s -/
theorem total_sum (l : List Nat) : total l = l.sum % 65521 := by
  have h : ∀ (l : List Nat) (a : Nat), a < 65521 → l.foldl add a = (a + l.sum) % 65521 := by
    intro l
    induction l with
    | nil => intro a ha; simp; omega
    | cons x l ih =>
      intro a ha
      rw [List.foldl_cons, ih _ (add_lt a x), List.sum_cons]
      unfold add P
      omega
  unfold total
  rw [h l 0 (by decide), Nat.zero_add]
theorem total_perm {l l' : List Nat} (h : l.Perm l') : total l = total l' := by
  rw [total_sum, total_sum, h.sum_nat]
def br : Nat → List (List Nat)
  | 0 => [[]]
  | n + 1 => (br n).map (fun l => l ++ [0]) ++ (br n).map (fun l => l ++ [1])
theorem corners_succ (n : Nat) : corners (n + 1) = (corners n).map (fun l => 0 :: l) ++ (corners n).map (fun l => 1 :: l) := by
  show ([0, 1].flatMap fun x => (corners n).map fun l => x :: l) = _
  simp [List.flatMap_cons]
theorem corners_back : ∀ n : Nat, ((corners n).map (fun l => l ++ [0]) ++ (corners n).map (fun l => l ++ [1])).Perm (corners (n + 1))
  | 0 => .refl _
  | n + 1 => by
    have ih := corners_back n
    rw [corners_succ (n + 1)]
    have h0 := ih.map (fun l => 0 :: l)
    have h1 := ih.map (fun l => 1 :: l)
    refine .trans ?_ (h0.append h1)
    rw [corners_succ n]
    simp only [List.map_append, List.map_map]
    generalize hA : List.map ((fun l => l ++ [0]) ∘ fun l => 0 :: l) (corners n) = A
    generalize hB : List.map ((fun l => l ++ [0]) ∘ fun l => 1 :: l) (corners n) = B
    generalize hC : List.map ((fun l => l ++ [1]) ∘ fun l => 0 :: l) (corners n) = C
    generalize hD : List.map ((fun l => l ++ [1]) ∘ fun l => 1 :: l) (corners n) = D
    have eA : List.map ((fun l => 0 :: l) ∘ fun l => l ++ [0]) (corners n) = A := hA
    have eB : List.map ((fun l => 1 :: l) ∘ fun l => l ++ [0]) (corners n) = B := hB
    have eC : List.map ((fun l => 0 :: l) ∘ fun l => l ++ [1]) (corners n) = C := hC
    have eD : List.map ((fun l => 1 :: l) ∘ fun l => l ++ [1]) (corners n) = D := hD
    rw [eA, eB, eC, eD]
    rw [List.append_assoc, List.append_assoc]
    refine List.Perm.append_left A ?_
    rw [← List.append_assoc, ← List.append_assoc]
    exact List.Perm.append_right D List.perm_append_comm
theorem br_perm : ∀ n : Nat, (br n).Perm (corners n)
  | 0 => .refl _
  | n + 1 => by
    have ih := br_perm n
    exact ((ih.map (fun l => l ++ [0])).append (ih.map (fun l => l ++ [1]))).trans (corners_back n)
theorem br_len : ∀ n : Nat, (br n).length = 2 ^ n
  | 0 => rfl
  | n + 1 => by
    show ((br n).map (fun l => l ++ [0]) ++ (br n).map (fun l => l ++ [1])).length = _
    rw [List.length_append, List.length_map, List.length_map, br_len n, Nat.pow_succ]; omega
theorem br_row : ∀ (n : Nat), ∀ r ∈ br n, r.length = n ∧ ∀ x ∈ r, x ≤ 1
  | 0, r, h => by
    have e : r = [] := List.mem_singleton.mp h
    subst e
    exact ⟨rfl, fun x hx => by cases hx⟩
  | n + 1, r, h => by
    have h' : r ∈ (br n).map (fun l => l ++ [0]) ++ (br n).map (fun l => l ++ [1]) := h
    rcases List.mem_append.mp h' with h' | h' <;> obtain ⟨s, hs, rfl⟩ := List.mem_map.mp h' <;> obtain ⟨h1, h2⟩ := br_row n s hs <;> refine ⟨by simp [h1], fun x hx => ?_⟩ <;> rcases List.mem_append.mp hx with hx | hx
    · exact h2 x hx
    · rw [List.mem_singleton.mp hx]; exact Nat.zero_le _
    · exact h2 x hx
    · rw [List.mem_singleton.mp hx]; exact Nat.le_refl _
theorem numbers_of {l : List Nat} (h : ∀ x ∈ l, x < 65521) : numbers l = true := by
  unfold numbers
  rw [List.all_eq_true]
  intro x hx
  exact decide_eq_true (h x hx)
theorem numbers_join {a b : List Nat} (h1 : numbers a = true) (h2 : ∀ x ∈ b, x ≤ 1) : numbers (a ++ b) = true := by
  rw [numbers_append, h1, numbers_of fun x hx => by have := h2 x hx; omega]; rfl
theorem total_take_succ {rows : List (List Nat)} {i : Nat} {r : List Nat} (f : List Nat → Nat) (h : rows[i]? = some r) : total ((rows.take (i + 1)).map f) = add (total ((rows.take i).map f)) (f r) := by
  rw [List.take_succ, h, List.map_append]
  exact total_snoc _ _
theorem map_take_succ {α β : Type} {l : List α} {i : Nat} {r : α} (f : α → β) (h : l[i]? = some r) : (l.take (i + 1)).map f = (l.take i).map f ++ [f r] := by
  rw [List.take_succ, h, List.map_append]; rfl
theorem range_map_succ {β : Type} (f : Nat → β) (i : Nat) : (List.range (i + 1)).map f = (List.range i).map f ++ [f i] := by
  rw [List.range_succ, List.map_append]; rfl
end W

set_option linter.all false
namespace W
open Sv41
theorem within_iff (z lo hi : Int) : within z lo hi = decide (lo ≤ z ∧ z ≤ hi) := by
  unfold within
  by_cases h1 : lo ≤ z <;> by_cases h2 : z ≤ hi <;> simp [h1, h2]
theorem far_v (n : Int) (t : List Nat) : (does (.far n t)).v = if 1 ≤ n ∧ n ≤ 10 then (if bits t = true then ((far n.toNat t : Nat) : Int) else -3) else -2 := by
  show (if within n 1 10 = false then ok (-2) else if bits t = false then ok (-3) else nat (far n.toNat t)).v = _
  rw [within_iff]
  by_cases h : 1 ≤ n ∧ n ≤ 10
  · rw [if_pos h, if_neg (by simp [h])]
    cases bits t <;> rfl
  · rw [if_neg h, if_pos (by simp only [h, decide_false])]; rfl
theorem rejects_v (n : Int) (t : List Nat) : (does (.rejects n t)).v = if 1 ≤ n ∧ n ≤ 10 then (if bits t = true then ((rejects n.toNat t : Nat) : Int) else -3) else -2 := by
  show (if within n 1 10 = false then ok (-2) else if bits t = false then ok (-3) else nat (rejects n.toNat t)).v = _
  rw [within_iff]
  by_cases h : 1 ≤ n ∧ n ≤ 10
  · rw [if_pos h, if_neg (by simp [h])]
    cases bits t <;> rfl
  · rw [if_neg h, if_pos (by simp only [h, decide_false])]; rfl
theorem far_l (n : Int) (t : List Nat) : (does (.far n t)).l = [] := by
  show (if within n 1 10 = false then ok (-2) else if bits t = false then ok (-3) else nat (far n.toNat t)).l = _
  split
  · rfl
  · split <;> rfl
theorem rejects_l (n : Int) (t : List Nat) : (does (.rejects n t)).l = [] := by
  show (if within n 1 10 = false then ok (-2) else if bits t = false then ok (-3) else nat (rejects n.toNat t)).l = _
  split
  · rfl
  · split <;> rfl
theorem table_asked {n : Int} {t : List Int} (h : Sv41Neutral.row (Sv41Neutral.many n 1 10 (2 ^ n.toNat)) 256 t = true) : (∀ x ∈ t, 0 ≤ x ∧ x < 256) ∧ (1 ≤ n → n ≤ 10 → t.length = 2 ^ n.toNat) := by
  obtain ⟨l, b⟩ := row_says h
  refine ⟨b, fun h1 h2 => ?_⟩
  rw [many_in h1 h2] at l
  have e : ((2 ^ n.toNat : Nat) : Int) = (2 : Int) ^ n.toNat := by simp
  rw [← e] at l
  exact Int.ofNat.inj l
theorem far_asked {n : Int} {t : List Int} (h : PySv41.bl_far_asked n t = true) : (∀ x ∈ t, 0 ≤ x ∧ x < 256) ∧ (1 ≤ n → n ≤ 10 → t.length = 2 ^ n.toNat) := by
  unfold PySv41.bl_far_asked Sv41Neutral.asked Sv41Neutral.asked1 at h
  simp only [Bool.and_eq_true] at h
  exact table_asked h.2
theorem rejects_asked {n : Int} {t : List Int} (h : PySv41.bl_rejects_asked n t = true) : (∀ x ∈ t, 0 ≤ x ∧ x < 256) ∧ (1 ≤ n → n ≤ 10 → t.length = 2 ^ n.toNat) := by
  unfold PySv41.bl_rejects_asked Sv41Neutral.asked Sv41Neutral.asked1 at h
  simp only [Bool.and_eq_true] at h
  exact table_asked h.2
theorem bits_get {t : List Nat} (h : bits t = true) (i : Nat) : t.getD i 0 ≤ 1 := by
  unfold bits at h
  rw [List.all_eq_true] at h
  rw [List.getD_eq_getElem?_getD]
  cases e : t[i]? with
  | none => exact Nat.zero_le _
  | some z => exact of_decide_eq_true (h z (List.mem_of_getElem? e))
theorem bits_append (a b : List Nat) : bits (a ++ b) = (bits a && bits b) := by unfold bits; exact List.all_append
theorem bits_take {l : List Nat} {i z : Nat} (hz : l[i]? = some z) (h : z ≤ 1) (hp : bits (l.take i) = true) : bits (l.take (i + 1)) = true := by
  rw [List.take_succ, hz, bits_append, hp]
  show (true && ([z].all fun x => decide (x ≤ 1))) = _
  rw [List.all_cons, List.all_nil, Bool.and_true, Bool.true_and]
  exact decide_eq_true h
theorem bits_not {l : List Nat} {i z : Nat} (hz : l[i]? = some z) (h : ¬ z ≤ 1) : bits l = false := by
  cases q : bits l with
  | false => rfl
  | true => exact absurd (of_decide_eq_true (List.all_eq_true.mp q z (List.mem_of_getElem? hz))) h
/-! ### counting -/
theorem sum_count (p : Nat → Bool) : ∀ l : List Nat, (l.map fun y => if p y = true then 1 else 0).sum = (l.filter p).length
  | [] => rfl
  | x :: l => by
    rw [List.map_cons, List.sum_cons, sum_count p l]
    cases e : p x with
    | true => rw [List.filter_cons_of_pos e, List.length_cons, if_pos rfl]; omega
    | false => rw [List.filter_cons_of_neg (by simp [e]), if_neg (by simp)]; omega
theorem le_one {a : Nat} (h : a ≤ 1) : a = 0 ∨ a = 1 := by omega
theorem xor3 {a b c : Nat} (ha : a ≤ 1) (hb : b ≤ 1) (hc : c ≤ 1) : (a ^^^ b) ^^^ c = if ((a + b) % 2 != c) = true then 1 else 0 := by
  rcases le_one ha with rfl | rfl <;> rcases le_one hb with rfl | rfl <;> rcases le_one hc with rfl | rfl <;> decide
theorem xor2 {a b : Nat} (ha : a ≤ 1) (hb : b ≤ 1) : a ^^^ b = if (a != b) = true then 1 else 0 := by
  rcases le_one ha with rfl | rfl <;> rcases le_one hb with rfl | rfl <;> decide
theorem xor_add {a b : Nat} (ha : a ≤ 1) (hb : b ≤ 1) : a ^^^ b = (a + b) % 2 := by
  rcases le_one ha with rfl | rfl <;> rcases le_one hb with rfl | rfl <;> decide
def pairs (t : List Nat) (m x : Nat) : Nat := ((List.range m).map fun y => (t.getD x 0 ^^^ t.getD y 0) ^^^ t.getD (x ^^^ y) 0).sum
theorem pairs_eq {t : List Nat} (h : bits t = true) (m x : Nat) : pairs t m x = ((List.range m).filter fun y => (bit t x + bit t y) % 2 != bit t (x ^^^ y)).length := by
  rw [← sum_count]
  unfold pairs
  congr 1
  exact List.map_congr_left fun y _ => xor3 (bits_get h _) (bits_get h _) (bits_get h _)
theorem rejects_eq {t : List Nat} (h : bits t = true) (n : Nat) : rejects n t = ((List.range (2 ^ n)).map (pairs t (2 ^ n))).sum := by
  unfold rejects
  congr 1
  exact List.map_congr_left fun x _ => (pairs_eq h _ x).symm
/-! ### parity -/
def pc (n k : Nat) : Nat := ((List.range n).filter fun i => k.testBit i).length % 2
def cnt1 (n k : Nat) : Nat := ((List.range n).filter fun i => k.testBit i).length
theorem cnt1_succ (n k : Nat) : cnt1 (n + 1) k = k % 2 + cnt1 n (k / 2) := by
  unfold cnt1
  rw [← sum_count, ← sum_count, List.range_succ_eq_map, List.map_cons, List.sum_cons, List.map_map]
  congr 1
  · rw [Nat.testBit_zero]
    by_cases e : k % 2 = 1
    · rw [if_pos (by simp [e]), e]
    · rw [if_neg (by simp [e])]; omega
  · congr 1
    exact List.map_congr_left fun i _ => by
      show (if k.testBit (i + 1) = true then 1 else 0) = _
      rw [Nat.testBit_succ]
theorem cnt1_last (n k : Nat) (h : k < 2 ^ n) : cnt1 (n + 1) k = cnt1 n k := by
  unfold cnt1
  rw [← sum_count, ← sum_count, range_map_succ, List.sum_append, Nat.testBit_lt_two_pow h]; simp
theorem pc_half {n m : Nat} (h : m < 2 ^ n) : pc n m = pc n (m / 2) ^^^ (m % 2) := by
  have e : pc n m = (pc n (m / 2) + m % 2) % 2 := by
    show cnt1 n m % 2 = (cnt1 n (m / 2) % 2 + m % 2) % 2
    cases n with
    | zero =>
      have : m = 0 := by simp at h; exact h
      subst this; rfl
    | succ n =>
      rw [cnt1_succ, cnt1_last n (m / 2) (by rw [Nat.pow_succ] at h; omega)]
      omega
  rw [e, xor_add (by unfold pc; omega) (by omega)]
theorem pc_zero (n : Nat) : pc n 0 = 0 := by
  show cnt1 n 0 % 2 = 0
  have : cnt1 n 0 = 0 := by
    unfold cnt1
    rw [List.length_eq_zero_iff, List.filter_eq_nil_iff]
    intro i _
    simp
  rw [this]
theorem odd_pc (n a x : Nat) : odd n a x = pc n (x &&& a) := by
  unfold odd pc
  congr 2
  refine List.filter_congr fun i _ => ?_
  rw [Nat.testBit_and, Bool.and_comm]
theorem pc_le (n k : Nat) : pc n k ≤ 1 := by unfold pc; omega
def ocs (n : Nat) : List Nat := (List.range (2 ^ n)).map (pc n)
theorem ocs_len (n : Nat) : (ocs n).length = 2 ^ n := by unfold ocs; simp
theorem ocs_get {n k : Nat} (h : k < 2 ^ n) : (ocs n).getD k 0 = pc n k := by
  unfold ocs
  rw [List.getD_eq_getElem?_getD, List.getElem?_map, List.getElem?_range h]; rfl
theorem ocs_take_succ {n i : Nat} (h : i < 2 ^ n) : (ocs n).take (i + 1) = (ocs n).take i ++ [pc n i] := by
  unfold ocs
  rw [← List.map_take, ← List.map_take, List.take_range, List.take_range, Nat.min_eq_left (by omega), Nat.min_eq_left (by omega), range_map_succ]
theorem take_getD {l : List Nat} {i k : Nat} (h : k < i) : (l.take i).getD k 0 = l.getD k 0 := by
  rw [List.getD_eq_getElem?_getD, List.getD_eq_getElem?_getD, List.getElem?_take, if_pos h]
def apart (n : Nat) (t : List Nat) (a : Nat) : Nat := ((List.range (2 ^ n)).map fun x => t.getD x 0 ^^^ (ocs n).getD (x &&& a) 0).sum
theorem apart_eq {t : List Nat} (h : bits t = true) {n a : Nat} (ha : a < 2 ^ n) : apart n t a = differs n t a := by
  unfold differs
  rw [← sum_count]
  unfold apart
  congr 1
  refine List.map_congr_left fun x hx => ?_
  have hx := List.mem_range.mp hx
  rw [ocs_get (Nat.lt_of_le_of_lt Nat.and_le_left hx), ← odd_pc]
  exact xor2 (bits_get h _) (by unfold odd; omega)
theorem foldl_min (f : Nat → Nat) : ∀ (l : List Nat) (a : Nat), l.foldl (fun d v => min d (f v)) a ≤ a ∧ (∀ v ∈ l, l.foldl (fun d v => min d (f v)) a ≤ f v) ∧ (l.foldl (fun d v => min d (f v)) a = a ∨ ∃ v ∈ l, l.foldl (fun d v => min d (f v)) a = f v)
  | [], a => ⟨Nat.le_refl _, ⟨fun v h => (by cases h), .inl rfl⟩⟩
  | x :: l, a => by
    obtain ⟨h1, h2, h3⟩ := foldl_min f l (min a (f x))
    rw [List.foldl_cons]
    refine ⟨by omega, fun v hv => ?_, ?_⟩
    · rcases List.mem_cons.mp hv with rfl | hv
      · omega
      · exact h2 v hv
    · rcases h3 with h3 | ⟨v, hv, h3⟩
      · rw [h3]
        by_cases q : a ≤ f x
        · exact .inl (by omega)
        · exact .inr ⟨x, List.mem_cons_self, by omega⟩
      · exact .inr ⟨v, List.mem_cons_of_mem _ hv, h3⟩
theorem differs_le (n : Nat) (t : List Nat) (a : Nat) : differs n t a ≤ 2 ^ n := by
  unfold differs
  refine Nat.le_trans (List.length_filter_le _ _) ?_
  rw [List.length_range]; exact Nat.le_refl _
theorem far_eq {n m : Nat} {t : List Nat} (hb : bits t = true) (hm : m ∈ (List.range (2 ^ n)).map (apart n t)) (h : ∀ y ∈ (List.range (2 ^ n)).map (apart n t), m ≤ y) : far n t = m := by
  obtain ⟨h1, h2, h3⟩ := foldl_min (fun a => differs n t a) (List.range (2 ^ n)) (2 ^ n)
  obtain ⟨v, hv, rfl⟩ := List.mem_map.mp hm
  have q1 := h2 v hv
  rw [← apart_eq hb (List.mem_range.mp hv)] at q1
  show (List.range (2 ^ n)).foldl (fun d a => min d (differs n t a)) (2 ^ n) = _
  rcases h3 with h3 | ⟨u, hu, h3⟩
  · rw [h3] at q1 ⊢
    have := differs_le n t v
    rw [← apart_eq hb (List.mem_range.mp hv)] at this
    omega
  · rw [h3] at q1 ⊢
    have := h _ (List.mem_map.mpr ⟨u, hu, rfl⟩)
    rw [apart_eq hb (List.mem_range.mp hu)] at this
    omega
end W

set_option linter.all false
namespace W
open Sv41
/-! ### equal modulo the prime -/
def Eq5 (a b : Int) : Prop := ∃ k : Int, a = b + 65521 * k
theorem Eq5.refl (a : Int) : Eq5 a a := ⟨0, by omega⟩
theorem Eq5.of {a b : Int} (h : a = b) : Eq5 a b := ⟨0, by omega⟩
theorem Eq5.symm {a b : Int} (h : Eq5 a b) : Eq5 b a := by obtain ⟨k, h⟩ := h; exact ⟨-k, by omega⟩
theorem Eq5.trans {a b c : Int} (h : Eq5 a b) (h' : Eq5 b c) : Eq5 a c := by obtain ⟨k, h⟩ := h; obtain ⟨l, h'⟩ := h'; exact ⟨k + l, by omega⟩
theorem Eq5.add {a b c d : Int} (h : Eq5 a b) (h' : Eq5 c d) : Eq5 (a + c) (b + d) := by obtain ⟨k, h⟩ := h; obtain ⟨l, h'⟩ := h'; exact ⟨k + l, by omega⟩
theorem Eq5.sub {a b c d : Int} (h : Eq5 a b) (h' : Eq5 c d) : Eq5 (a - c) (b - d) := by obtain ⟨k, h⟩ := h; obtain ⟨l, h'⟩ := h'; exact ⟨k - l, by omega⟩
theorem Eq5.mul {a b c d : Int} (h : Eq5 a b) (h' : Eq5 c d) : Eq5 (a * c) (b * d) := by
  obtain ⟨k, rfl⟩ := h; obtain ⟨l, rfl⟩ := h'
  exact ⟨k * d + b * l + 65521 * k * l, by grind⟩
theorem Eq5.emod (a : Int) : Eq5 (a % 65521) a := ⟨-(a / 65521), by omega⟩
theorem Eq5.eq {a b : Int} (h : Eq5 a b) : a % 65521 = b % 65521 := by obtain ⟨k, h⟩ := h; omega
theorem Eq5.iff {a b : Int} (h : a % 65521 = b % 65521) : Eq5 a b := ⟨a / 65521 - b / 65521, by omega⟩
/-- a small factor goes away -/
theorem Eq5.cancel {a : Nat} {b : Int} (h1 : 0 < a) (h2 : a < 17) (h : Eq5 ((a : Int) * b) 0) : Eq5 b 0 := by
  obtain ⟨k, h⟩ := h
  have q : ∃ u v : Int, (a : Int) * u + 65521 * v = 1 := by
    have : ∀ a : Nat, a < 17 → 0 < a → ∃ u : Nat, u < 65521 ∧ (a * u) % 65521 = 1 := by
      intro a h2 h1
      match a, h1, h2 with
      | 1, _, _ => exact ⟨1, by decide, by decide⟩
      | 2, _, _ => exact ⟨32761, by decide, by decide⟩
      | 3, _, _ => exact ⟨43681, by decide, by decide⟩
      | 4, _, _ => exact ⟨49141, by decide, by decide⟩
      | 5, _, _ => exact ⟨52417, by decide, by decide⟩
      | 6, _, _ => exact ⟨54601, by decide, by decide⟩
      | 7, _, _ => exact ⟨56161, by decide, by decide⟩
      | 8, _, _ => exact ⟨57331, by decide, by decide⟩
      | 9, _, _ => exact ⟨58241, by decide, by decide⟩
      | 10, _, _ => exact ⟨58969, by decide, by decide⟩
      | 11, _, _ => exact ⟨11913, by decide, by decide⟩
      | 12, _, _ => exact ⟨60061, by decide, by decide⟩
      | 13, _, _ => exact ⟨60481, by decide, by decide⟩
      | 14, _, _ => exact ⟨60841, by decide, by decide⟩
      | 15, _, _ => exact ⟨61153, by decide, by decide⟩
      | 16, _, _ => exact ⟨61426, by decide, by decide⟩
      | b + 17, _, h => exact absurd h (by omega)
    obtain ⟨u, _, hu⟩ := this a h2 h1
    refine ⟨(u : Int), -((a * u / 65521 : Nat) : Int), ?_⟩
    have e : (a : Int) * (u : Int) = ((a * u : Nat) : Int) := by simp
    rw [e]
    omega
  obtain ⟨u, v, q⟩ := q
  refine ⟨k * u + v * b, ?_⟩
  have : b = b * ((a : Int) * u + 65521 * v) := by rw [q, Int.mul_one]
  grind
/-! ### polynomials by their coefficients at falling places -/
def ev : List Int → Int → Int → Int
  | [], _, _ => 0
  | c :: cs, i, x => c + (x - i) * ev cs (i + 1) x
theorem ev_root : ∀ (cs : List Int) (i : Int), cs.length ≤ 16 → (∀ j : Nat, j < cs.length → Eq5 (ev cs i (i + j)) 0) → ∀ x : Int, Eq5 (ev cs i x) 0
  | [], i, _, _, x => .refl 0
  | c :: cs, i, hl, h, x => by
    have h0 : Eq5 c 0 := by
      have q := h 0 (by simp)
      have e : ev (c :: cs) i (i + ((0 : Nat) : Int)) = c := by
        show c + (i + ((0 : Nat) : Int) - i) * _ = c
        have : i + ((0 : Nat) : Int) - i = 0 := by omega
        rw [this, Int.zero_mul, Int.add_zero]
      rw [e] at q; exact q
    have ih := ev_root cs (i + 1) (by simp at hl; omega) (fun j hj => by
      have q := h (j + 1) (by simp; omega)
      have e : ev (c :: cs) i (i + ((j + 1 : Nat) : Int)) = c + ((j + 1 : Nat) : Int) * ev cs (i + 1) (i + 1 + j) := by
        show c + (i + ((j + 1 : Nat) : Int) - i) * ev cs (i + 1) (i + ((j + 1 : Nat) : Int)) = _
        have e1 : i + ((j + 1 : Nat) : Int) - i = ((j + 1 : Nat) : Int) := by omega
        have e2 : i + ((j + 1 : Nat) : Int) = i + 1 + (j : Int) := by omega
        rw [e1, e2]
      rw [e] at q
      refine Eq5.cancel (a := j + 1) (by omega) (by simp at hl; omega) ?_
      have := q.sub h0
      refine .trans (.of ?_) this
      omega) x
    show Eq5 (c + (x - i) * ev cs (i + 1) x) 0
    have := h0.add ((Eq5.refl (x - i)).mul ih)
    rw [Int.mul_zero] at this
    exact this
def addl : List Int → List Int → List Int
  | [], l => l
  | l, [] => l
  | a :: l, b :: m => (a + b) :: addl l m
theorem ev_addl : ∀ (l m : List Int) (i x : Int), ev (addl l m) i x = ev l i x + ev m i x
  | [], m, i, x => by unfold addl; show _ = 0 + _; omega
  | a :: l, [], i, x => by unfold addl; show _ = _ + 0; omega
  | a :: l, b :: m, i, x => by
    show (a + b) + (x - i) * ev (addl l m) (i + 1) x = (a + (x - i) * ev l (i + 1) x) + (b + (x - i) * ev m (i + 1) x)
    rw [ev_addl l m]
    grind
theorem addl_len : ∀ (l m : List Int) (n : Nat), l.length ≤ n → m.length ≤ n → (addl l m).length ≤ n
  | [], m, n, _, h => by unfold addl; exact h
  | a :: l, [], n, h, _ => by unfold addl; exact h
  | a :: l, b :: m, n, h, h' => by
    show (addl l m).length + 1 ≤ n
    cases n with
    | zero => simp at h
    | succ n =>
      have := addl_len l m n (by simp at h; omega) (by simp at h'; omega)
      omega
theorem ev_smul (a : Int) : ∀ (l : List Int) (i x : Int), ev (l.map fun c => a * c) i x = a * ev l i x
  | [], i, x => by show (0 : Int) = a * 0; omega
  | c :: l, i, x => by
    show a * c + (x - i) * ev (l.map fun c => a * c) (i + 1) x = a * (c + (x - i) * ev l (i + 1) x)
    rw [ev_smul a l]
    grind
def mulz (z : Int) : Int → List Int → List Int
  | _, [] => []
  | i, c :: cs => ((i - z) * c) :: addl [c] (mulz z (i + 1) cs)
theorem ev_mulz (z : Int) : ∀ (l : List Int) (i x : Int), ev (mulz z i l) i x = ev l i x * (x - z)
  | [], i, x => by show (0 : Int) = 0 * _; omega
  | c :: l, i, x => by
    show (i - z) * c + (x - i) * ev (addl [c] (mulz z (i + 1) l)) (i + 1) x = (c + (x - i) * ev l (i + 1) x) * (x - z)
    rw [ev_addl, ev_mulz z l]
    show (i - z) * c + (x - i) * ((c + (x - (i + 1)) * 0) + ev l (i + 1) x * (x - z)) = _
    grind
theorem mulz_len (z : Int) : ∀ (l : List Int) (i : Int), (mulz z i l).length ≤ l.length + 1
  | [], i => by show 0 ≤ 1; omega
  | c :: l, i => by
    show (addl [c] (mulz z (i + 1) l)).length + 1 ≤ (l.length + 1) + 1
    have := addl_len [c] (mulz z (i + 1) l) (l.length + 1) (by simp) (mulz_len z l (i + 1))
    omega
def Spn (n : Nat) (f : Nat → Int) : Prop := ∃ cs : List Int, cs.length ≤ n ∧ ∀ x : Nat, Eq5 (f x) (ev cs 0 x)
theorem Spn.add {n : Nat} {f g : Nat → Int} (h : Spn n f) (h' : Spn n g) : Spn n fun x => f x + g x := by
  obtain ⟨c, l, h⟩ := h; obtain ⟨c', l', h'⟩ := h'
  exact ⟨addl c c', addl_len _ _ _ l l', fun x => by rw [ev_addl]; exact (h x).add (h' x)⟩
theorem Spn.smul {n : Nat} {f : Nat → Int} (a : Int) (h : Spn n f) : Spn n fun x => a * f x := by
  obtain ⟨c, l, h⟩ := h
  exact ⟨c.map fun c => a * c, by rw [List.length_map]; exact l, fun x => by rw [ev_smul]; exact (Eq5.refl a).mul (h x)⟩
theorem Spn.mulz {n : Nat} {f : Nat → Int} (z : Int) (h : Spn n f) : Spn (n + 1) fun x => f x * ((x : Int) - z) := by
  obtain ⟨c, l, h⟩ := h
  exact ⟨W.mulz z 0 c, Nat.le_trans (mulz_len z c 0) (by omega), fun x => by rw [ev_mulz]; exact (h x).mul (.refl _)⟩
theorem Spn.zero {n : Nat} : Spn n fun _ => 0 := ⟨[], Nat.zero_le _, fun _ => .refl 0⟩
theorem Spn.one : Spn 1 fun _ => 1 := ⟨[1], Nat.le_refl _, fun x => .of (by show (1 : Int) = 1 + _ * 0; omega)⟩
theorem Spn.mono {n m : Nat} {f : Nat → Int} (h : Spn n f) (hm : n ≤ m) : Spn m f := by
  obtain ⟨c, l, h⟩ := h
  exact ⟨c, by omega, h⟩
theorem Spn.congr {n : Nat} {f g : Nat → Int} (h : Spn n f) (e : ∀ x, Eq5 (g x) (f x)) : Spn n g := by
  obtain ⟨c, l, h⟩ := h
  exact ⟨c, l, fun x => (e x).trans (h x)⟩
/-- two that agree at 0 to n - 1 agree everywhere -/
theorem Spn.same {n : Nat} (hn : n ≤ 16) {f g : Nat → Int} (hf : Spn n f) (hg : Spn n g) (h : ∀ j : Nat, j < n → Eq5 (f j) (g j)) (x : Nat) : Eq5 (f x) (g x) := by
  obtain ⟨c, l, q⟩ := hf.add (hg.smul (-1))
  have r := ev_root c 0 (by omega) (fun j hj => by
    rw [Int.zero_add]
    refine (q j).symm.trans ?_
    have := (h j (by omega)).add (Eq5.refl (-1 * g j))
    refine this.trans (.of (by omega))) x
  have q1 : Eq5 (f x + -1 * g x) 0 := (q x).trans r
  obtain ⟨k, q1⟩ := q1
  exact ⟨k, by omega⟩
end W

set_option linter.all false
namespace W
open Sv41
theorem inv_small {a : Nat} (h1 : 0 < a) (h2 : a < 17) : ∃ u : Int, Eq5 ((a : Int) * u) 1 := by
  have : ∀ a : Nat, a < 17 → 0 < a → ((a : Int) * ([0, 1, 32761, 43681, 49141, 52417, 54601, 56161, 57331, 58241, 58969, 11913, 60061, 60481, 60841, 61153, 61426].getD a 0)) % 65521 = 1 := by decide
  exact ⟨_, .iff (this a h2 h1)⟩
/-! ### Newton -/
def ch : Nat → Nat → Nat
  | _, 0 => 1
  | 0, _ + 1 => 0
  | n + 1, k + 1 => ch n k + ch n (k + 1)
theorem ch_zero (x : Nat) : ch x 0 = 1 := by cases x <;> rfl
theorem ch_pascal (x s : Nat) : ch (x + 1) (s + 1) = ch x s + ch x (s + 1) := rfl
theorem ch_step : ∀ (x s : Nat), ((s : Int) + 1) * (ch x (s + 1) : Int) = (ch x s : Int) * ((x : Int) - s)
  | 0, 0 => by decide
  | 0, s + 1 => by
    show _ * ((0 : Nat) : Int) = ((0 : Nat) : Int) * _
    simp
  | x + 1, 0 => by
    have ih := ch_step x 0
    rw [ch_pascal, ch_zero] at *
    rw [ch_zero]
    simp at *
    omega
  | x + 1, t + 1 => by
    have ih := ch_step x (t + 1)
    have ih' := ch_step x t
    rw [ch_pascal, ch_pascal]
    simp only [Int.natCast_add] at *
    generalize (ch x t : Int) = A at *
    generalize (ch x (t + 1) : Int) = B at *
    generalize (ch x (t + 1 + 1) : Int) = C at *
    generalize (x : Int) = X at *
    generalize (t : Int) = T at *
    simp at *
    grind
theorem ch_div (x s : Nat) : (ch x s : Int) * ((x : Int) - s) / ((s : Int) + 1) = (ch x (s + 1) : Int) := by
  rw [← ch_step, Int.mul_ediv_cancel_left _ (by omega)]
def dif (l : List Int) : List Int := (List.range (l.length - 1)).map fun i => l.getD (i + 1) 0 - l.getD i 0
theorem dif_len (l : List Int) : (dif l).length = l.length - 1 := by unfold dif; simp
theorem dif_get {l : List Int} {j : Nat} (h : j + 1 < l.length) : (dif l).getD j 0 = l.getD (j + 1) 0 - l.getD j 0 := by
  unfold dif
  rw [List.getD_eq_getElem?_getD, List.getElem?_map, List.getElem?_range (by omega)]; rfl
def Gn : Nat → List Int → Nat → Nat → Int
  | 0, _, _, _ => 0
  | n + 1, l, s, x => (ch x s : Int) * l.getD 0 0 + Gn n (dif l) (s + 1) x
theorem G_pascal : ∀ (n : Nat) (l : List Int) (s x : Nat), Gn n l (s + 1) (x + 1) = Gn n l (s + 1) x + Gn n l s x
  | 0, l, s, x => rfl
  | n + 1, l, s, x => by
    show (ch (x + 1) (s + 1) : Int) * l.getD 0 0 + Gn n (dif l) (s + 1 + 1) (x + 1) = ((ch x (s + 1) : Int) * l.getD 0 0 + Gn n (dif l) (s + 1 + 1) x) + ((ch x s : Int) * l.getD 0 0 + Gn n (dif l) (s + 1) x)
    rw [G_pascal n (dif l) (s + 1) x, ch_pascal, Int.natCast_add]
    grind
theorem G_at0 : ∀ (n : Nat) (l : List Int) (s : Nat), Gn n l (s + 1) 0 = 0
  | 0, l, s => rfl
  | n + 1, l, s => by
    show ((0 : Nat) : Int) * l.getD 0 0 + Gn n (dif l) (s + 1 + 1) 0 = 0
    rw [G_at0 n (dif l) (s + 1)]; simp
theorem G_grid : ∀ (j n : Nat) (l : List Int), l.length = n → j < n → Gn n l 0 j = l.getD j 0
  | 0, n + 1, l, hl, _ => by
    show (ch 0 0 : Int) * l.getD 0 0 + Gn n (dif l) (0 + 1) 0 = _
    rw [G_at0, ch_zero]; simp
  | j + 1, n + 1, l, hl, hj => by
    have ih := G_grid j (n + 1) l hl (by omega)
    have ih' := G_grid j n (dif l) (by rw [dif_len]; omega) (by omega)
    rw [dif_get (by omega)] at ih'
    show (ch (j + 1) 0 : Int) * l.getD 0 0 + Gn n (dif l) (0 + 1) (j + 1) = _
    rw [G_pascal, ch_zero, ih']
    have ih2 : (ch j 0 : Int) * l.getD 0 0 + Gn n (dif l) (0 + 1) j = l.getD j 0 := ih
    rw [ch_zero] at ih2
    omega
theorem G_span : ∀ (n : Nat) (l : List Int) (s : Nat), s + n ≤ 16 → ∃ cs : List Int, cs.length ≤ n ∧ ∀ x : Nat, Eq5 (Gn n l s x) ((ch x s : Int) * ev cs s x)
  | 0, l, s, _ => ⟨[], Nat.le_refl _, fun x => .of (by show (0 : Int) = _ * 0; omega)⟩
  | n + 1, l, s, h => by
    obtain ⟨cs, hl, q⟩ := G_span n (dif l) (s + 1) (by omega)
    obtain ⟨w, hw⟩ := inv_small (a := s + 1) (by omega) (by omega)
    refine ⟨l.getD 0 0 :: cs.map fun c => w * c, by simp; exact hl, fun x => ?_⟩
    show Eq5 ((ch x s : Int) * l.getD 0 0 + Gn n (dif l) (s + 1) x) ((ch x s : Int) * (l.getD 0 0 + ((x : Int) - s) * ev (cs.map fun c => w * c) ((s : Int) + 1) x))
    rw [ev_smul]
    have q1 := q x
    have e : (((s + 1 : Nat) : Int)) = (s : Int) + 1 := by omega
    rw [e] at q1 hw
    generalize ev cs ((s : Int) + 1) x = V at *
    have st := ch_step x s
    have q2 : Eq5 (ch x (s + 1) : Int) ((((s : Int) + 1) * w) * (ch x (s + 1) : Int)) := by
      have := hw.mul (Eq5.refl (ch x (s + 1) : Int))
      rw [Int.one_mul] at this
      exact this.symm
    have q3 : (((s : Int) + 1) * w) * (ch x (s + 1) : Int) = w * ((ch x s : Int) * ((x : Int) - s)) := by
      rw [← st]; grind
    rw [q3] at q2
    have q4 := (Eq5.refl ((ch x s : Int) * l.getD 0 0)).add (q1.trans (q2.mul (Eq5.refl V)))
    refine q4.trans (.of ?_)
    grind
theorem newton_span (l : List Int) (h : l.length ≤ 16) : Spn l.length (Gn l.length l 0) := by
  obtain ⟨cs, hl, q⟩ := G_span l.length l 0 (by omega)
  refine ⟨cs, hl, fun x => ?_⟩
  have := q x
  rw [ch_zero] at this
  refine this.trans (.of ?_)
  simp
/-! ### Lagrange -/
def iw (y z : Nat) : Nat := (if z ≤ y then [0, 1, 32761, 43681, 49141, 52417, 54601, 56161, 57331, 58241, 58969, 11913, 60061, 60481, 60841, 61153, 61426].getD (y - z) 0 else 65521 - [0, 1, 32761, 43681, 49141, 52417, 54601, 56161, 57331, 58241, 58969, 11913, 60061, 60481, 60841, 61153, 61426].getD (z - y) 0)
theorem iw_ok : ∀ y : Fin 16, ∀ z : Fin 16, y ≠ z → iw y.val z.val < 65521 ∧ mul (sub y.val z.val) (iw y.val z.val) = 1 := by decide +kernel
theorem inverse_ok {a u : Nat} (hu : u < 65521) (e : mul a u = 1) : mul a (inverse a) = 1 := by
  unfold inverse
  cases f : (List.range P).find? fun x => mul a x == 1 with
  | none =>
    have := List.find?_eq_none.mp f u (List.mem_range.mpr hu)
    exact absurd (by rw [e]; rfl) this
  | some v =>
    have := List.find?_some f
    exact eq_of_beq this
theorem inv_ok {y z : Nat} (hy : y < 16) (hz : z < 16) (h : y ≠ z) : mul (sub y z) (inverse (sub y z)) = 1 := by
  obtain ⟨h1, h2⟩ := iw_ok ⟨y, hy⟩ ⟨z, hz⟩ (fun q => h (Fin.mk.inj q))
  exact inverse_ok h1 h2
theorem E_mul (a b : Nat) : Eq5 ((mul a b : Nat) : Int) ((a : Int) * (b : Int)) := by rw [mul_int]; exact .emod _
theorem E_sub (a b : Nat) : Eq5 ((sub a b : Nat) : Int) ((a : Int) - (b : Int)) := by rw [sub_int]; exact .emod _
def pf (q : Nat → Int) (x : Nat) (Z : List Nat) (a : Int) : Int := Z.foldl (fun w z => w * (((x : Int) - z) * q z)) a
theorem pf_cast (x y : Nat) : ∀ (Z : List Nat) (a : Nat) (b : Int), Eq5 (a : Int) b → Eq5 ((Z.foldl (fun w z => mul w (mul (sub x z) (inverse (sub y z)))) a : Nat) : Int) (pf (fun z => ((inverse (sub y z) : Nat) : Int)) x Z b)
  | [], a, b, h => h
  | z :: Z, a, b, h => by
    have q : Eq5 ((mul a (mul (sub x z) (inverse (sub y z))) : Nat) : Int) (b * (((x : Int) - z) * ((inverse (sub y z) : Nat) : Int))) := by
      generalize inverse (sub y z) = u
      exact (E_mul _ _).trans (h.mul ((E_mul _ _).trans ((E_sub _ _).mul (.refl _))))
    have r := pf_cast x y Z _ _ q
    unfold pf at r ⊢
    rw [List.foldl_cons, List.foldl_cons]
    exact r
theorem pf_span (q : Nat → Int) : ∀ (Z : List Nat) (n : Nat) (f : Nat → Int), Spn n f → Spn (n + Z.length) fun x => pf q x Z (f x)
  | [], n, f, h => h
  | z :: Z, n, f, h => by
    have := pf_span q Z (n + 1) (fun x => f x * (((x : Int) - z) * q z)) (((h.mulz z).smul (q z)).congr fun x => .of (by grind))
    refine this.mono ?_
    simp; omega
theorem pf_zero (q : Nat → Int) (x : Nat) : ∀ Z : List Nat, pf q x Z 0 = 0
  | [] => rfl
  | z :: Z => by
    show pf q x Z (0 * _) = 0
    rw [Int.zero_mul]; exact pf_zero q x Z
theorem pf_hit (q : Nat → Int) (x : Nat) : ∀ (Z : List Nat) (a : Int), x ∈ Z → pf q x Z a = 0
  | z :: Z, a, h => by
    show pf q x Z (a * (((x : Int) - z) * q z)) = 0
    rcases List.mem_cons.mp h with rfl | h
    · rw [Int.sub_self, Int.zero_mul, Int.mul_zero]; exact pf_zero q x Z
    · exact pf_hit q x Z _ h
theorem pf_one (q : Nat → Int) (x : Nat) : ∀ (Z : List Nat) (a : Int), (∀ z ∈ Z, Eq5 (((x : Int) - z) * q z) 1) → Eq5 (pf q x Z a) a
  | [], a, _ => .refl a
  | z :: Z, a, h => by
    refine (pf_one q x Z _ fun z hz => h z (List.mem_cons_of_mem _ hz)).trans ?_
    have := (Eq5.refl a).mul (h z List.mem_cons_self)
    rw [Int.mul_one] at this
    exact this
theorem E_total (l : List Nat) : Eq5 ((total l : Nat) : Int) ((l.sum : Nat) : Int) := by
  rw [total_sum, Int.natCast_emod]; exact .emod _
theorem E_sum {α : Type} (g : α → Nat) (f : α → Int) : ∀ l : List α, (∀ y ∈ l, Eq5 (g y : Int) (f y)) → Eq5 (((l.map g).sum : Nat) : Int) (l.map f).sum
  | [], _ => .refl 0
  | y :: l, h => by
    rw [List.map_cons, List.map_cons, List.sum_cons, List.sum_cons, Int.natCast_add]
    exact (h y List.mem_cons_self).add (E_sum g f l fun z hz => h z (List.mem_cons_of_mem _ hz))
theorem E_sum2 {α : Type} (g f : α → Int) : ∀ l : List α, (∀ y ∈ l, Eq5 (g y) (f y)) → Eq5 (l.map g).sum (l.map f).sum
  | [], _ => .refl 0
  | y :: l, h => by
    rw [List.map_cons, List.map_cons, List.sum_cons, List.sum_cons]
    exact (h y List.mem_cons_self).add (E_sum2 g f l fun z hz => h z (List.mem_cons_of_mem _ hz))
theorem sum_span {α : Type} {n : Nat} (F : α → Nat → Int) : ∀ l : List α, (∀ y ∈ l, Spn n (F y)) → Spn n fun x => (l.map fun y => F y x).sum
  | [], _ => Spn.zero
  | y :: l, h => by
    have := (h y List.mem_cons_self).add (sum_span F l fun z hz => h z (List.mem_cons_of_mem _ hz))
    exact this.congr fun x => .of (by rw [List.map_cons, List.sum_cons])
def zs (n y : Nat) : List Nat := (List.range n).filter fun z => z != y
theorem zs_len {n y : Nat} (h : y < n) : (zs n y).length + 1 ≤ n := by
  have : (zs n y).length < (List.range n).length := List.length_filter_lt_length_iff_exists.mpr ⟨y, List.mem_range.mpr h, by simp⟩
  rw [List.length_range] at this
  omega
def iq (y : Nat) : Nat → Int := fun z => ((inverse (sub y z) : Nat) : Int)
def lagr (m : List Nat) (x : Nat) : Int := (m.zipIdx.map fun y => (y.1 : Int) * pf (iq y.2) x (zs m.length y.2) 1).sum
theorem lies_lagr (m : List Nat) (x : Nat) : Eq5 ((lies m x : Nat) : Int) (lagr m x) := by
  unfold lies lagr
  refine (E_total _).trans (E_sum _ _ _ fun y _ => ?_)
  exact (E_mul _ _).trans ((Eq5.refl _).mul (pf_cast x y.2 (zs m.length y.2) 1 1 (.refl _)))
theorem zip_lt {m : List Nat} {y : Nat × Nat} (h : y ∈ m.zipIdx) : y.2 < m.length := by
  have := List.mem_zipIdx h
  omega
theorem lagr_span (m : List Nat) : Spn m.length (lagr m) := by
  unfold lagr
  refine sum_span (fun (y : Nat × Nat) x => (y.1 : Int) * pf (iq y.2) x (zs m.length y.2) 1) _ fun y hy => ?_
  refine Spn.smul _ ((pf_span (iq y.2) (zs m.length y.2) 1 (fun _ => 1) Spn.one).mono ?_)
  have := zs_len (zip_lt hy)
  omega
theorem pick (j : Nat) : ∀ (l : List Nat) (k : Nat), ((l.zipIdx k).map fun y => if y.2 = j then (y.1 : Int) else 0).sum = if k ≤ j then ((l.getD (j - k) 0 : Nat) : Int) else 0
  | [], k => by simp
  | v :: l, k => by
    rw [List.zipIdx_cons, List.map_cons, List.sum_cons, pick j l (k + 1)]
    by_cases h : k = j
    · subst h
      rw [if_pos rfl, if_neg (by omega), if_pos (Nat.le_refl _), Nat.sub_self]; simp
    · rw [if_neg h]
      by_cases h2 : k ≤ j
      · rw [if_pos (by omega), if_pos h2]
        have e : j - k = (j - (k + 1)) + 1 := by omega
        rw [e, List.getD_cons_succ]; omega
      · rw [if_neg (by omega), if_neg h2]; omega
theorem lagr_grid {m : List Nat} (hm : m.length ≤ 16) {j : Nat} (hj : j < m.length) : Eq5 (lagr m j) ((m.getD j 0 : Nat) : Int) := by
  have e := pick j m 0
  rw [if_pos (Nat.zero_le _), Nat.sub_zero] at e
  rw [← e]
  refine E_sum2 _ _ _ fun y hy => ?_
  have hy2 := zip_lt hy
  by_cases h : y.2 = j
  · rw [if_pos h]
    have : Eq5 (pf (iq y.2) j (zs m.length y.2) 1) 1 := pf_one _ _ _ _ fun z hz => by
      obtain ⟨h1, h2⟩ := List.mem_filter.mp hz
      have h1 := List.mem_range.mp h1
      have h2 : z ≠ y.2 := by simpa using h2
      have k := inv_ok (y := y.2) (z := z) (by omega) (by omega) (fun q => h2 q.symm)
      have k2 := E_mul (sub y.2 z) (inverse (sub y.2 z))
      rw [k] at k2
      refine .trans ?_ k2.symm
      show Eq5 (((j : Int) - (z : Int)) * ((inverse (sub y.2 z) : Nat) : Int)) _
      rw [← h]
      exact (E_sub _ _).symm.mul (.refl _)
    have := (Eq5.refl (y.1 : Int)).mul this
    rw [Int.mul_one] at this
    exact this
  · rw [if_neg h, pf_hit]
    · exact .of (by omega)
    · exact List.mem_filter.mpr ⟨List.mem_range.mpr hj, by simp; exact fun q => h q.symm⟩
def zi (l : List Nat) : List Int := l.map fun (x : Nat) => (x : Int)
theorem zi_len (l : List Nat) : (zi l).length = l.length := by unfold zi; simp
theorem zi_get (l : List Nat) (j : Nat) : (zi l).getD j 0 = ((l.getD j 0 : Nat) : Int) := by
  unfold zi
  rw [List.getD_eq_getElem?_getD, List.getElem?_map, List.getD_eq_getElem?_getD]
  cases l[j]? <;> rfl
/-- the values' polynomial, by differences -/
theorem lies_newton {m : List Nat} (hm : m.length ≤ 16) (x : Nat) : ((lies m x : Nat) : Int) = Gn m.length (zi m) 0 x % 65521 := by
  have h1 := newton_span (zi m) (by rw [zi_len]; exact hm)
  rw [zi_len] at h1
  have h2 := lagr_span m
  have h3 := Spn.same hm h2 h1 (fun j hj => (lagr_grid hm hj).trans (.of (by rw [G_grid j m.length (zi m) (zi_len m) hj, zi_get]))) x
  have h4 := ((lies_lagr m x).trans h3).eq
  rw [← h4]
  have : lies m x < 65521 := total_lt _
  omega
end W

set_option linter.all false
namespace W
open Sv41
/-- the answer's list -/
def ans (x : Sv41.Call) : List Int := (does x).v :: Sv41Neutral.ints (does x).l
theorem f_ans {c : Sv41Neutral.Call} {x : Sv41.Call} (h : Sv41Neutral.callOf c = some x) : Sv41Neutral.f c = ans x := by
  unfold Sv41Neutral.f
  rw [h]; rfl
theorem message_ans (b : List Nat) (g n i : Int) (r : List Nat) : ans (.message b g n i r) = if (1 ≤ g ∧ g ≤ 64 ∧ 1 ≤ n ∧ n ≤ 12) ∧ 0 ≤ i ∧ i < n then (match circ n.toNat (chunks g.toNat b) with
    | none => [-3]
    | some c => if numbers r = true then ((each n.toNat c + 1 : Nat) : Int) :: Sv41Neutral.ints (padded (message c n.toNat (each n.toNat c) r)) else [-3]) else [-2] := by
  unfold ans
  show (if (sizes g n && within i 0 (n - 1)) = false then ok (-2) else ofCircuit b g n fun c => if numbers r = false then ok (-3) else (⟨((each n.toNat c + 1 : Nat) : Int), padded (message c n.toNat (each n.toNat c) r)⟩ : Ans)).v :: Sv41Neutral.ints (if (sizes g n && within i 0 (n - 1)) = false then ok (-2) else ofCircuit b g n fun c => if numbers r = false then ok (-3) else (⟨((each n.toNat c + 1 : Nat) : Int), padded (message c n.toNat (each n.toNat c) r)⟩ : Ans)).l = _
  rw [ofCircuit_v, sizes_iff, within_iff]
  by_cases h : (1 ≤ g ∧ g ≤ 64 ∧ 1 ≤ n ∧ n ≤ 12) ∧ 0 ≤ i ∧ i < n
  · rw [if_pos h]
    have h2 : 0 ≤ i ∧ i ≤ n - 1 := by omega
    have e : (decide (1 ≤ g ∧ g ≤ 64 ∧ 1 ≤ n ∧ n ≤ 12) && decide (0 ≤ i ∧ i ≤ n - 1)) = true := by
      rw [decide_eq_true h.1, decide_eq_true h2]; rfl
    rw [e, if_neg (by decide), if_pos h.1]
    cases circ n.toNat (chunks g.toNat b) with
    | none => rfl
    | some c =>
      show Ans.v (if numbers r = false then _ else _) :: Sv41Neutral.ints (Ans.l (if numbers r = false then _ else _)) = if numbers r = true then _ else _
      cases numbers r <;> rfl
  · rw [if_neg h]
    have e : (decide (1 ≤ g ∧ g ≤ 64 ∧ 1 ≤ n ∧ n ≤ 12) && decide (0 ≤ i ∧ i ≤ n - 1)) = false := by
      rw [Bool.and_eq_false_iff]
      by_cases h1 : 1 ≤ g ∧ g ≤ 64 ∧ 1 ≤ n ∧ n ≤ 12
      · exact .inr (decide_eq_false (by omega))
      · exact .inl (decide_eq_false h1)
    rw [e, if_pos rfl]; rfl
theorem message_asked {n i : Int} {code r : List Int} (h : PySv41.sc_message_asked n i code r = true) :
    (∀ y ∈ code, 0 ≤ y ∧ y < 256) ∧ (∃ g : Nat, code.length = 4 * g ∧ g ≤ 64) ∧ (∀ y ∈ r, 0 ≤ y ∧ y < 65536) ∧ (1 ≤ n → n ≤ 12 → 0 ≤ i → i < n → r.length = i.toNat) := by
  unfold PySv41.sc_message_asked Sv41Neutral.asked Sv41Neutral.asked1 at h
  simp only [Bool.and_eq_true] at h
  obtain ⟨hc, _, hr⟩ := h
  obtain ⟨bc, hg⟩ := circ_asked hc
  obtain ⟨lr, br⟩ := row_says hr
  refine ⟨bc, hg, br, fun h1 h2 h3 h4 => ?_⟩
  rw [if_pos (by unfold Sv41Neutral.ok; simp; omega)] at lr
  omega
theorem total_asked {n : Int} {code : List Int} (h : PySv41.sc_total_asked n code = true) : (∀ y ∈ code, 0 ≤ y ∧ y < 256) ∧ ∃ g : Nat, code.length = 4 * g ∧ g ≤ 64 := circ_asked h
theorem degree_asked {n : Int} {code : List Int} (h : PySv41.ch_degree_asked n code = true) : (∀ y ∈ code, 0 ≤ y ∧ y < 256) ∧ ∃ g : Nat, code.length = 4 * g ∧ g ≤ 64 := circ_asked h
theorem each_asked {n : Int} {code : List Int} (h : PySv41.sc_each_asked n code = true) : (∀ y ∈ code, 0 ≤ y ∧ y < 256) ∧ ∃ g : Nat, code.length = 4 * g ∧ g ≤ 64 := circ_asked h
theorem check_asked {n t : Int} {code rows r : List Int} (h : PySv41.sc_check_asked n t code rows r = true) :
    (∀ y ∈ code, 0 ≤ y ∧ y < 256) ∧ (∃ g : Nat, code.length = 4 * g ∧ g ≤ 64) ∧ (∀ y ∈ rows, 0 ≤ y ∧ y < 65536) ∧ (∀ y ∈ r, 0 ≤ y ∧ y < 65536) ∧ (1 ≤ n → n ≤ 12 → rows.length = 16 * n.toNat ∧ r.length = n.toNat) := by
  unfold PySv41.sc_check_asked Sv41Neutral.asked Sv41Neutral.asked1 at h
  simp only [Bool.and_eq_true] at h
  obtain ⟨hc, _, hw, hr⟩ := h
  obtain ⟨bc, hg⟩ := circ_asked hc
  obtain ⟨lw, bw⟩ := row_says hw
  obtain ⟨lr, br⟩ := row_says hr
  refine ⟨bc, hg, bw, br, fun h1 h2 => ?_⟩
  rw [many_in h1 h2] at lw lr
  omega
theorem check_v (b : List Nat) (g n t : Int) (rows r : List Nat) : (does (.check b g n t rows r)).v = if (1 ≤ g ∧ g ≤ 64 ∧ 1 ≤ n ∧ n ≤ 12) ∧ 0 ≤ t ∧ t < 65521 then (match circ n.toNat (chunks g.toNat b) with
    | none => -3
    | some c => if (rowsOf n.toNat (each n.toNat c) rows).all numbers = true ∧ numbers r = true then (if accepts c t.toNat (rowsOf n.toNat (each n.toNat c) rows) r r = true then 1 else 0) else -3) else -2 := by
  show (if (sizes g n && within t 0 (P - 1)) = false then ok (-2) else ofCircuit b g n fun c =>
      if (((rowsOf n.toNat (each n.toNat c) rows).all numbers) && numbers r) = false then ok (-3) else nat (if accepts c t.toNat (rowsOf n.toNat (each n.toNat c) rows) r r = true then 1 else 0)).v = _
  rw [ofCircuit_v, sizes_iff, within_iff]
  have ep : (P : Int) - 1 = 65520 := by decide
  rw [ep]
  by_cases h : (1 ≤ g ∧ g ≤ 64 ∧ 1 ≤ n ∧ n ≤ 12) ∧ 0 ≤ t ∧ t < 65521
  · rw [if_pos h]
    have h2 : 0 ≤ t ∧ t ≤ 65520 := by omega
    have e : (decide (1 ≤ g ∧ g ≤ 64 ∧ 1 ≤ n ∧ n ≤ 12) && decide (0 ≤ t ∧ t ≤ 65520)) = true := by
      rw [decide_eq_true h.1, decide_eq_true h2]; rfl
    rw [e, if_neg (by decide), if_pos h.1]
    cases circ n.toNat (chunks g.toNat b) with
    | none => rfl
    | some c =>
      show Ans.v (if ((rowsOf n.toNat (each n.toNat c) rows).all numbers && numbers r) = false then ok (-3) else nat (if accepts c t.toNat (rowsOf n.toNat (each n.toNat c) rows) r r = true then 1 else 0)) = if _ then _ else _
      cases (rowsOf n.toNat (each n.toNat c) rows).all numbers <;> cases numbers r <;> cases accepts c t.toNat (rowsOf n.toNat (each n.toNat c) rows) r r <;> rfl
  · rw [if_neg h]
    have e : (decide (1 ≤ g ∧ g ≤ 64 ∧ 1 ≤ n ∧ n ≤ 12) && decide (0 ≤ t ∧ t ≤ 65520)) = false := by
      rw [Bool.and_eq_false_iff]
      by_cases h1 : 1 ≤ g ∧ g ≤ 64 ∧ 1 ≤ n ∧ n ≤ 12
      · exact .inr (decide_eq_false (by omega))
      · exact .inl (decide_eq_false h1)
    rw [e, if_pos rfl]; rfl
theorem check_l (b : List Nat) (g n t : Int) (rows r : List Nat) : (does (.check b g n t rows r)).l = [] := by
  show (if (sizes g n && within t 0 (P - 1)) = false then ok (-2) else ofCircuit b g n fun c =>
      if (((rowsOf n.toNat (each n.toNat c) rows).all numbers) && numbers r) = false then ok (-3) else nat (if accepts c t.toNat (rowsOf n.toNat (each n.toNat c) rows) r r = true then 1 else 0)).l = _
  split
  · rfl
  · exact ofCircuit_l fun c => by split <;> rfl
/-! ### the check's loop -/
theorem accepts_step {c : Circuit} {d : Nat} {ms : List (List Nat)} {r all : List Nat} {i : Nat} {m : List Nat} (h : ms[i]? = some m) :
    accepts c d (ms.drop i) (r.drop i) all = (add (lies m 0) (lies m 1) == d && accepts c (lies m (r.getD i 0)) (ms.drop (i + 1)) (r.drop (i + 1)) all) := by
  have hi : i < ms.length := (List.getElem?_eq_some_iff.mp h).1
  have e : ms.drop i = m :: ms.drop (i + 1) := by
    rw [List.drop_eq_getElem_cons hi]
    rw [List.getElem?_eq_getElem hi] at h
    rw [Option.some.inj h]
  rw [e]
  show (add (lies m 0) (lies m 1) == d && accepts c (lies m ((r.drop i).headD 0)) (ms.drop (i + 1)) ((r.drop i).drop 1) all) = _
  have e1 : (r.drop i).headD 0 = r.getD i 0 := by
    rw [List.headD_eq_head?_getD, List.head?_drop, List.getD_eq_getElem?_getD]
  have e2 : (r.drop i).drop 1 = r.drop (i + 1) := by rw [List.drop_drop]
  rw [e1, e2]
theorem accepts_end {c : Circuit} {d : Nat} {ms : List (List Nat)} {r all : List Nat} {i : Nat} (h : ms.length ≤ i) : accepts c d (ms.drop i) (r.drop i) all = (d == value c all) := by
  rw [List.drop_eq_nil_of_le h]; rfl
theorem rowsOf_len (n d : Nat) (l : List Nat) : (rowsOf n d l).length = n := by unfold rowsOf; simp
theorem rowsOf_get {n d : Nat} {l : List Nat} {j : Nat} (h : j < n) : (rowsOf n d l)[j]? = some ((l.drop (16 * j)).take (d + 1)) := by
  unfold rowsOf; rw [List.getElem?_map, List.getElem?_range h]; rfl
theorem rowsOf_row {n d : Nat} {l : List Nat} (hl : l.length = 16 * n) (hd : d ≤ 15) : ∀ m ∈ rowsOf n d l, m.length = d + 1 := by
  intro m hm
  obtain ⟨j, hj, rfl⟩ := List.mem_map.mp hm
  have hj := List.mem_range.mp hj
  rw [List.length_take, List.length_drop]; omega
theorem lies_lt (m : List Nat) (x : Nat) : lies m x < 65521 := total_lt _
theorem numbers_mem {l : List Nat} (h : numbers l = true) : ∀ x ∈ l, x < 65521 := fun x hx => of_decide_eq_true (List.all_eq_true.mp h x hx)
/-! ### differences' size -/
def small (b : Int) (l : List Int) : Prop := ∀ j : Nat, -b ≤ l.getD j 0 ∧ l.getD j 0 ≤ b
theorem small_dif {b : Int} {l : List Int} (hb : 0 ≤ b) (h : small b l) : small (2 * b) (dif l) := by
  intro j
  by_cases hj : j + 1 < l.length
  · rw [dif_get hj]
    have := h j; have := h (j + 1)
    omega
  · have e : (dif l).getD j 0 = 0 := by
      rw [List.getD_eq_getElem?_getD, List.getElem?_eq_none (by rw [dif_len]; omega)]; rfl
    rw [e]; omega
theorem small_zi {m : List Nat} (h : ∀ x ∈ m, x < 65521) : small 65521 (zi m) := by
  intro j
  rw [zi_get]
  have : m.getD j 0 < 65521 := by
    rw [List.getD_eq_getElem?_getD]
    cases e : m[j]? with
    | none => show 0 < 65521; decide
    | some z => exact h z (List.mem_of_getElem? e)
  omega
/-! ### the message -/
def tob (c : Circuit) (st : List Nat) (k : Nat) : Nat := total ((corners k).map fun l => value c (st ++ l))
theorem tob_br (c : Circuit) (st : List Nat) (k : Nat) : total ((br k).map fun l => value c (st ++ l)) = tob c st k := total_perm ((br_perm k).map _)
theorem sumAll_tob (c : Circuit) (n : Nat) : sumAll c n = tob c [] n := rfl
theorem message_tob (c : Circuit) (n d : Nat) (r : List Nat) : message c n d r = (List.range (d + 1)).map fun z => tob c (r ++ [z]) (n - r.length - 1) := by
  unfold message tob
  refine List.map_congr_left fun z _ => ?_
  congr 1
  refine List.map_congr_left fun l _ => ?_
  rw [List.append_assoc]; rfl
theorem message_len (c : Circuit) (n d : Nat) (r : List Nat) : (message c n d r).length = d + 1 := by unfold message; simp
end W

set_option Elab.async false
set_option linter.all false
set_option maxRecDepth 100000
set_option maxHeartbeats 4000000
namespace M
open PySem PySem.Spec PyProof.Rows L2
theorem boot_max : bootBuiltins "max" = some (.builtin "max") := by decide +kernel
theorem boot_min : bootBuiltins "min" = some (.builtin "min") := by decide +kernel
theorem boot_sum : bootBuiltins "sum" = some (.builtin "sum") := by decide +kernel
/-- a whole number of the module -/
def GI (mg : Str → Option Value) (x : Str) (i : Int) : Prop := ∃ t, mg x = some (Value.int i t)
theorem pe_gi {X : Cx} {x : Str} {i : Int} {pos : Pos} (h : GI X.mg x i) (hg : Gl X x := by rfl) (hd : (x == ("__debug__" : Str)) = false := by decide) : PE X (.Name x pos) (tC (.int i)) := by
  obtain ⟨t, m⟩ := h
  exact pe_glob hg m ⟨t, rfl⟩ hd
/-- a def of the text behind the top -/
structure Df (K : PySem.W.Frag) (mg : Str → Option Value) (x : Str) (st : Stmt) (ps : List Str) (f : Addr) (fd : FuncData) : Prop where
  fn : Fun K x x st f fd
  at_ : mg x = some (.ref f)
  bn : Binds K fd ps []
/-- .. that keeps a promise -/
structure Pr (P : Program) (w : World) (K : PySem.W.Frag) (mg : Str → Option Value) (base : Heap) (k : Nat) (x : Str) (ps : List Str) (sp : Sp) (f : Addr) (fd : FuncData) : Prop where
  ok : FnOk P w K mg base CX0 k f fd ps sp
  at_ : mg x = some (.ref f)
  kp : PySem.W.keepIn K (.ref f) = true
  bn : Binds K fd ps []
section
variable {P : Program} {w : World} {K : PySem.W.Frag} {mg : Str → Option Value} {base : Heap} {f : Addr} {fd : FuncData}
theorem Pr.of {x : Str} {st : Stmt} {N ps : List Str} {k : Nat} {sp : Sp} (D : Df K mg x st ps f fd) (S : FnScope N ps (defScope st)) (len : ∀ vs H Q E, sp vs H Q E → vs.length = ps.length)
    (hbody : ∀ (cdv : Value) (A : Around) (outer : List Env) (s : Shared) (H : Hp) (vs : List V) (Q : VK) (E : XK), Room k (A.deeper (envOfC x (defScope st) s.heap.objs.size f cdv)) → sp vs H Q E →
      ∃ t, PSs (cxOf CX0 P w K mg base N x (defScope st) f cdv A outer s H E).nox (defBody st) t ∧ t { nx := fun _ H' => Q .non H', rt := Q } (start N vs) H) : Pr P w K mg base (k + 1) x ps sp f fd :=
  ⟨D.fn.ok S len hbody, D.at_, D.fn.kp, D.bn⟩
end
theorem pe_def {X : Cx} {k : Nat} {x : Str} {ps : List Str} {sp : Sp} {f : Addr} {fd : FuncData} {e : Expr} {es : List Expr} {t : TA} {p pos : Pos} (h : Pr X.prog X.w X.K X.mg X.base k x ps sp f fd) (hr : Room k X.A) (ha : PA X (e :: es) t) (hx : Passes CX0 X E0 := by exact pass0) (hg : Gl X x := by rfl)
    (hdb : (x == ("__debug__" : Str)) = false := by decide) (he : starEach (e :: es) X.env = (false, eval e X.env) :: starEach es X.env := by rfl) (hpl : (backTo pos (starEach es X.env)).any (·.1) = false := by rfl) :
    PE X (.Call (.Name x p) (e :: es) [] pos) (tCall sp [] E0 t) := pe_call h.ok hr hg h.at_ h.kp h.bn .nil hx ha hdb he hpl
/-! ### readings -/
theorem seq_all {t u : TS} {D : Ends} {σ : L2.St} {H : Hp} (h : ∀ R, R = u D → t { D with nx := R } σ H) : tSeq t u D σ H := h _ rfl
theorem for_list_go {K : PySem.W.Frag} {tl : TE} {g : TG} {tb : TS} {D : Ends} {σ : L2.St} {H : Hp} {a : Addr} {xs : List V} (h0 : ∀ Q : VK, Q (.ref a) H → tl σ H Q) (hS : SqL K H a xs) (Pv : Nat → L2.St → Hp → Prop) (hp : Pv 0 σ H)
    (hl : ∀ i σ H, i ≤ xs.length → Pv i σ H → SqL K H a xs)
    (hs : ∀ i x σ H, xs[i]? = some x → Pv i σ H → g x σ H fun σ2 H2 => tb { D with nx := Pv (i + 1), ct := Pv (i + 1), bk := D.nx } σ2 H2) (hd : ∀ σ H, Pv xs.length σ H → D.nx σ H) : tFor (iList K tl) g tb D σ H :=
  h0 _ ⟨a, rfl, ⟨xs, hS⟩, for_list Pv hp hl hs hd⟩
theorem for_tup_go {K : PySem.W.Frag} {tl : TE} {g : TG} {tb : TS} {D : Ends} {σ : L2.St} {H H1 : Hp} {a : Addr} {xs : List V} (h0 : ∀ Q : VK, Q (.ref a) H1 → tl σ H Q) (hS : SqT K H1 a xs) (Pv : Nat → L2.St → Hp → Prop) (hp : Pv 0 σ H1)
    (hl : ∀ i σ H, i ≤ xs.length → Pv i σ H → SqT K H a xs)
    (hs : ∀ i x σ H, xs[i]? = some x → Pv i σ H → g x σ H fun σ2 H2 => tb { D with nx := Pv (i + 1), ct := Pv (i + 1), bk := D.nx } σ2 H2) (hd : ∀ σ H, Pv xs.length σ H → D.nx σ H) : tFor (iTup K tl) g tb D σ H :=
  h0 _ ⟨a, rfl, ⟨xs, hS⟩, for_tup Pv hp hl hs hd⟩
theorem for_range_go {ta : TA} {g : TG} {tb : TS} {D : Ends} {σ : L2.St} {H H1 : Hp} {n : Nat} (h0 : ∀ Q : List V → Hp → Prop, Q [.int (n : Int)] H1 → ta σ H Q) (hn : n < 4611686018427387904) (Pv : Nat → L2.St → Hp → Prop) (hp : Pv 0 σ H1)
    (hs : ∀ (i : Nat) σ H, i < n → Pv i σ H → g (.int (i : Int)) σ H fun σ2 H2 => tb { D with nx := Pv (i + 1), ct := Pv (i + 1), bk := D.nx } σ2 H2) (hd : ∀ σ H, Pv n σ H → D.nx σ H) : tFor (iRng1 ta) g tb D σ H :=
  h0 _ ⟨(n : Int), rfl, by omega, by omega, for_range (lo := 0) Pv hp (fun i σ H hi p => by rw [Int.zero_add]; exact hs i σ H hi p) hd⟩
/-! ### heaps -/
theorem same_upd {H : Hp} {p : Addr} {o : HO} (h : H p = none) : Same H (upd H p o) := fun b o' e => by
  rw [upd_ne (ne_of_none e h)]; exact e
theorem same_refl {H : Hp} : Same H H := fun _ _ e => e
/-! ### lists of natural numbers -/
def ni (l : List Nat) : List V := l.map fun (x : Nat) => V.int (x : Int)
theorem ni_length (l : List Nat) : (ni l).length = l.length := List.length_map _
theorem ni_append (a b : List Nat) : ni (a ++ b) = ni a ++ ni b := List.map_append
theorem ni_one (x : Nat) : ni [x] = [V.int (x : Int)] := rfl
theorem ni_get {l : List Nat} {i : Nat} {y : V} (h : (ni l)[i]? = some y) : ∃ z, l[i]? = some z ∧ y = V.int (z : Int) := by
  unfold ni at h
  rw [List.getElem?_map] at h
  cases e : l[i]? with
  | none => rw [e] at h; cases h
  | some z => rw [e] at h; exact ⟨z, rfl, (Option.some.inj h).symm⟩
theorem ni_at {l : List Nat} {i : Nat} {z : Int} (e : z = (i : Int)) (h : i < l.length) : atI (ni l) z = some (V.int ((l.getD i 0 : Nat) : Int)) := by
  refine at_of e ?_
  unfold ni
  rw [List.getElem?_map, List.getElem?_eq_getElem h, List.getD_eq_getElem?_getD, List.getElem?_eq_getElem h]; rfl
theorem ni_last {l : List Nat} (h : l ≠ []) : atI (ni l) (-1) = some (V.int ((l.getLastD 0 : Nat) : Int)) := by
  rcases List.eq_nil_or_concat l with rfl | ⟨l', x, rfl⟩
  · exact absurd rfl h
  · rw [List.concat_eq_append, ni_append]
    have e : (l' ++ [x]).getLastD 0 = x := by simp [List.getLastD_eq_getLast?]
    rw [e]; exact atI_last _ _
def At (K : PySem.W.Frag) (H : Hp) (a : Addr) (l : List Nat) : Prop := SqL K H a (ni l)
theorem At.of {K : PySem.W.Frag} {H : Hp} {a : Addr} {l : List Nat} (h : H a = some (.lst (ni l))) : At K H a l := SqL.of h
theorem At.mono {K : PySem.W.Frag} {H H' : Hp} {a : Addr} {l : List Nat} (e : Same H H') (h : At K H a l) : At K H' a l := e.seq h
theorem getD_lt {l : List Nat} {b : Nat} (h : ∀ x ∈ l, x < b) (hb : 0 < b) (i : Nat) : l.getD i 0 < b := by
  rw [List.getD_eq_getElem?_getD]
  cases e : l[i]? with
  | none => exact hb
  | some z => exact h z (List.mem_of_getElem? e)
theorem line_lt {n : Nat} (h : n < 1000000) : n < sizeLine := by rw [sizeLine_eq]; omega
theorem line_le {n : Nat} (h : n < 1000000) : n ≤ sizeLine := Nat.le_of_lt (line_lt h)
/-! ### == of lists of natural numbers -/
def nd (l : List Nat) : List PyData := l.map fun (x : Nat) => PyData.int (x : Int)
theorem dp_ni {K : PySem.W.Frag} {H : Hp} : ∀ l : List Nat, DpAll K H (ni l) (nd l)
  | [] => .nil
  | x :: l => .cons (.int _) (dp_ni l)
theorem canLay_nd : ∀ l : List Nat, PyData.canLayAll0 (nd l) = true
  | [] => by simp [nd, PyData.canLayAll0]
  | x :: l => by
    have h := canLay_nd l
    unfold nd at h ⊢
    rw [List.map_cons]; simp [PyData.canLayAll0, PyData.canLay0, h]
theorem depth_nd : ∀ l : List Nat, PyData.depthAll (nd l) = 0
  | [] => by simp [nd, PyData.depthAll]
  | x :: l => by
    have h := depth_nd l
    unfold nd at h ⊢
    rw [List.map_cons]; simp [PyData.depthAll, PyData.depth, h]
theorem shaped_nd (l : List Nat) : SeqAt.shaped (.list (nd l)) = true := by
  unfold SeqAt.shaped
  simp [PyData.canLay0, PyData.depth, canLay_nd, depth_nd]
theorem eqv_nd : ∀ a b : List Nat, PyData.eqvAll (nd a) (nd b) = decide (a = b)
  | [], [] => by simp [nd, PyData.eqvAll]
  | [], y :: b => by simp [nd, PyData.eqvAll]
  | x :: a, [] => by simp [nd, PyData.eqvAll]
  | x :: a, y :: b => by
    have h := eqv_nd a b
    unfold nd at h ⊢
    rw [List.map_cons, List.map_cons]
    simp only [PyData.eqvAll, PyData.eqv, h]
    by_cases e : x = y
    · subst e; simp
    · have : ((x : Int) == (y : Int)) = false := by
        rw [beq_eq_false_iff_ne]; intro z; exact e (Int.ofNat.inj z)
      rw [this]; simp [e]
theorem eq_lists {K : PySem.W.Frag} {H : Hp} {Q : VK} {p q : Addr} {a b : List Nat} (hp : At K H p a) (hq : At K H q b) (k : Q (.bl (decide (a = b))) H) : rEqD K (.ref p) (.ref q) H Q :=
  ⟨.list (nd a), .list (nd b), .lst hp (dp_ni a), .lst hq (dp_ni b), shaped_nd a, shaped_nd b, by
    have e : PyData.eqv (.list (nd a)) (.list (nd b)) = decide (a = b) := by rw [← eqv_nd]; simp [PyData.eqv]
    rw [e]; exact k⟩
theorem for_tup_new {K : PySem.W.Frag} {ta : TA} {g : TG} {tb : TS} {D : Ends} {σ : L2.St} {H : Hp} {xs : List V} (h0 : ∀ Q : List V → Hp → Prop, Q xs H → ta σ H Q) (hlen : xs.length < 1000000)
    (Pv : Addr → Nat → L2.St → Hp → Prop) (hp : ∀ t, H t = none → Pv t 0 σ (upd H t (.tup xs)))
    (hl : ∀ t i σ H, i ≤ xs.length → Pv t i σ H → SqT K H t xs)
    (hs : ∀ t i x σ H, xs[i]? = some x → Pv t i σ H → g x σ H fun σ2 H2 => tb { D with nx := Pv t (i + 1), ct := Pv t (i + 1), bk := D.nx } σ2 H2) (hd : ∀ t σ H, Pv t xs.length σ H → D.nx σ H) : tFor (iTup K (tTup ta)) g tb D σ H :=
  h0 _ ⟨line_le hlen, fun t ht => ⟨t, rfl, ⟨xs, SqT.of upd_same⟩, for_tup (Pv t) (hp t ht) (hl t) (hs t) (hd t)⟩⟩
/-! ### a list of rows of natural numbers -/
structure Rows (K : PySem.W.Frag) (H : Hp) (p : Addr) (rows : List (List Nat)) : Prop where
  ex : ∃ as : List Addr, SqL K H p (as.map V.ref) ∧ as.length = rows.length ∧ ∀ (i : Nat) (a : Addr) (r : List Nat), as[i]? = some a → rows[i]? = some r → At K H a r
theorem Rows.mono {K : PySem.W.Frag} {H H' : Hp} {p : Addr} {rows : List (List Nat)} (e : Same H H') (h : Rows K H p rows) : Rows K H' p rows := by
  obtain ⟨as, h1, h2, h3⟩ := h.ex
  exact ⟨as, e.seq h1, h2, fun i a r q1 q2 => At.mono e (h3 i a r q1 q2)⟩
theorem refs_get {as : List Addr} {i : Nat} {y : V} (h : (as.map V.ref)[i]? = some y) : ∃ a, as[i]? = some a ∧ y = V.ref a := by
  rw [List.getElem?_map] at h
  cases e : as[i]? with
  | none => rw [e] at h; cases h
  | some z => rw [e] at h; exact ⟨z, rfl, (Option.some.inj h).symm⟩
theorem refs_at {as : List Addr} {i : Nat} {a : Addr} (h : as[i]? = some a) : atI (as.map V.ref) (i : Int) = some (V.ref a) := by
  refine atI_nat ?_
  rw [List.getElem?_map, h]; rfl
theorem cut_ni (l : List Nat) (a b : Nat) : cutV (ni l) (some (a : Int)) (some (b : Int)) = ni ((l.drop (min a l.length)).take (min b l.length - min a l.length)) := by
  unfold cutV
  rw [HT.sIx_nat, HT.sIx_nat, ni_length]
  unfold ni
  rw [List.map_take, List.map_drop]
theorem cut_four {l : List Nat} {g j : Nat} (hl : l.length = 4 * g) (hj : j < g) : cutV (ni l) (some ((4 * j : Nat) : Int)) (some ((4 * j + 4 : Nat) : Int)) = ni ((l.drop (4 * j)).take 4) := by
  rw [cut_ni, Nat.min_eq_left (by omega), Nat.min_eq_left (by omega), Nat.add_sub_cancel_left]
/-! ### the request -/
theorem ni_nats {l : List Int} (h : ∀ x ∈ l, 0 ≤ x) : l.map V.int = ni (Sv41Neutral.nats l) := by
  unfold ni Sv41Neutral.nats
  rw [List.map_map]
  refine List.map_congr_left fun x hx => ?_
  show V.int x = V.int ((x.toNat : Nat) : Int)
  rw [Int.toNat_of_nonneg (h x hx)]
theorem At.ints {K : PySem.W.Frag} {H : Hp} {a : Addr} {l : List Int} (h : SqL K H a (l.map V.int)) (hl : ∀ x ∈ l, 0 ≤ x) : At K H a (Sv41Neutral.nats l) := by
  unfold At
  rw [← ni_nats hl]
  exact h
theorem arg_ints {K : PySem.W.Frag} {H : Hp} {v : V} {l : List Int} (h : Dw K H v (.list (l.map PySem.W.WData.int))) : ∃ a, v = .ref a ∧ SqL K H a (l.map V.int) := by
  cases h with
  | lst hs ha =>
    have e := ints_dw l _ ha
    subst e
    exact ⟨_, rfl, hs⟩
theorem arg_int {K : PySem.W.Frag} {H : Hp} {v : V} {k : Int} (h : Dw K H v (.int k)) : v = .int k := by
  cases h
  rfl
theorem args_cons {K : PySem.W.Frag} {H : Hp} {xs : List V} {d : PySem.W.WData} {ds : List PySem.W.WData} (h : DwAll K H xs (d :: ds)) : ∃ v vs, xs = v :: vs ∧ Dw K H v d ∧ DwAll K H vs ds := by
  cases h with
  | cons h1 h2 => exact ⟨_, _, rfl, h1, h2⟩
theorem args_nil {K : PySem.W.Frag} {H : Hp} {xs : List V} (h : DwAll K H xs []) : xs = [] := by
  cases h
  rfl
theorem args_i {K : PySem.W.Frag} {H : Hp} {xs : List V} {k : Int} {ds : List PySem.W.WData} (h : DwAll K H xs (.int k :: ds)) : ∃ vs, xs = .int k :: vs ∧ DwAll K H vs ds := by
  obtain ⟨v, vs, rfl, h1, h2⟩ := args_cons h
  exact ⟨vs, by rw [arg_int h1], h2⟩
theorem args_l {K : PySem.W.Frag} {H : Hp} {xs : List V} {l : List Int} {ds : List PySem.W.WData} (h : DwAll K H xs (.list (l.map PySem.W.WData.int) :: ds)) : ∃ a vs, xs = .ref a :: vs ∧ SqL K H a (l.map V.int) ∧ DwAll K H vs ds := by
  obtain ⟨v, vs, rfl, h1, h2⟩ := args_cons h
  obtain ⟨a, rfl, h3⟩ := arg_ints h1
  exact ⟨a, vs, rfl, h3, h2⟩
theorem args_i4 {K : PySem.W.Frag} {H : Hp} {xs : List V} {k : Int} {l1 l2 l3 l4 : List Int} (h : DwAll K H xs [.int k, .list (l1.map PySem.W.WData.int), .list (l2.map PySem.W.WData.int), .list (l3.map PySem.W.WData.int), .list (l4.map PySem.W.WData.int)]) :
    ∃ a1 a2 a3 a4, xs = [.int k, .ref a1, .ref a2, .ref a3, .ref a4] ∧ SqL K H a1 (l1.map V.int) ∧ SqL K H a2 (l2.map V.int) ∧ SqL K H a3 (l3.map V.int) ∧ SqL K H a4 (l4.map V.int) := by
  obtain ⟨vs, rfl, g0⟩ := args_i h
  obtain ⟨a1, vs, rfl, h1, g1⟩ := args_l g0
  obtain ⟨a2, vs, rfl, h2, g2⟩ := args_l g1
  obtain ⟨a3, vs, rfl, h3, g3⟩ := args_l g2
  obtain ⟨a4, vs, rfl, h4, g4⟩ := args_l g3
  rw [args_nil g4]
  exact ⟨a1, a2, a3, a4, rfl, h1, h2, h3, h4⟩
theorem args_i2 {K : PySem.W.Frag} {H : Hp} {xs : List V} {k : Int} {l1 l2 : List Int} (h : DwAll K H xs [.int k, .list (l1.map PySem.W.WData.int), .list (l2.map PySem.W.WData.int)]) :
    ∃ a1 a2, xs = [.int k, .ref a1, .ref a2] ∧ SqL K H a1 (l1.map V.int) ∧ SqL K H a2 (l2.map V.int) := by
  obtain ⟨vs, rfl, g0⟩ := args_i h
  obtain ⟨a1, vs, rfl, h1, g1⟩ := args_l g0
  obtain ⟨a2, vs, rfl, h2, g2⟩ := args_l g1
  rw [args_nil g2]
  exact ⟨a1, a2, rfl, h1, h2⟩
theorem args_i1 {K : PySem.W.Frag} {H : Hp} {xs : List V} {k : Int} {l1 : List Int} (h : DwAll K H xs [.int k, .list (l1.map PySem.W.WData.int)]) :
    ∃ a1, xs = [.int k, .ref a1] ∧ SqL K H a1 (l1.map V.int) := by
  obtain ⟨vs, rfl, g0⟩ := args_i h
  obtain ⟨a1, vs, rfl, h1, g1⟩ := args_l g0
  rw [args_nil g1]
  exact ⟨a1, rfl, h1⟩
/-! ### tests -/
theorem ite_iff {p : Prop} {inst : Decidable p} {A B : Prop} : @ite Prop p inst A B ↔ (p → A) ∧ (¬ p → B) := by
  cases inst with
  | isTrue h => exact ⟨fun q => ⟨fun _ => q, fun z => absurd h z⟩, fun q => q.1 h⟩
  | isFalse h => exact ⟨fun q => ⟨fun z => absurd z h, fun _ => q⟩, fun q => q.2 h⟩
theorem scal_int {i j : Int} : scal (V.int i) (V.int j) = true := rfl
theorem vint_eq {i j : Int} : (V.int i = V.int j) ↔ i = j := ⟨V.int.inj, fun e => by rw [e]⟩
theorem max_go {K : PySem.W.Frag} {H : Hp} {a : Addr} {l : List Nat} {Q : VK} (h : At K H a l) (hne : 0 < l.length) (k : ∀ m : Nat, m ∈ l → (∀ y ∈ l, y ≤ m) → Q (.int (m : Int)) H) : rMax K [.ref a] H Q := by
  refine ⟨a, l.map fun (x : Nat) => (x : Int), rfl, ?_, by rw [List.length_map]; exact hne, fun m hm hmax => ?_⟩
  · have e : (l.map fun (x : Nat) => (x : Int)).map V.int = ni l := by unfold ni; rw [List.map_map]; rfl
    rw [e]
    exact h
  · obtain ⟨z, hz, rfl⟩ := List.mem_map.mp hm
    refine k z hz fun y hy => ?_
    have := hmax (y : Int) (List.mem_map.mpr ⟨y, hy, rfl⟩)
    omega
theorem lc_range_go {ta : TA} {g : TG} {tt : TT} {te : TE} {vs : List Nat} {σ : L2.St} {H : Hp} {Q : VK} {n : Nat} (h0 : ∀ Q : List V → Hp → Prop, Q [.int (n : Int)] H → ta σ H Q) (hn : n < 4611686018427387904) (Pv : Addr → Nat → Hp → Prop) (hp : ∀ D, H D = none → Pv D 0 (upd H D (.lst [])))
    (hs : ∀ D, H D = none → ∀ (i : Nat) H', i < n → Pv D i H' → g (.int (i : Int)) (wipe σ vs) H' fun σ2 H2 => wipe σ2 vs = wipe σ vs ∧ tt σ2 H2 fun b H3 =>
      if b = true then te σ2 H3 fun y H4 => ∃ acc, H4 D = some (.lst acc) ∧ acc.length < sizeLine ∧ Pv D (i + 1) (upd H4 D (.lst (acc ++ [y]))) else Pv D (i + 1) H3) (hd : ∀ D H', H D = none → Pv D n H' → Q (.ref D) H') : tLc (iRng1 ta) g tt te vs σ H Q :=
  h0 _ ⟨(n : Int), rfl, by omega, by omega, fun D hD => lc_range (lo := 0) (Pv D) (hp D hD) (fun i H' hi p => by rw [Int.zero_add]; exact hs D hD i H' hi p) fun H' p => hd D H' hD p⟩
end M

set_option Elab.async false
set_option linter.all false
set_option maxRecDepth 100000
set_option maxHeartbeats 4000000
namespace M
open PySem PySem.Spec PyProof.Rows L2
/-! ### list + list, whoever holds them -/
theorem add_plain (l : Addr) (xs : Array Value) (n : Nat) (u : Array (Option Value)) (b : Addr) (ys : Array Value) (m : Nat) (v : Array (Option Value)) (hz : xs.size + ys.size ≤ sizeLine) :
    Meets (Builtin.«list.__add__» ⟨[.ref l, .ref b], []⟩)
      (fun _ R s => s.heap.get? l = some ⟨.type "list", none, .seq xs n, u⟩ ∧ s.heap.get? b = some ⟨.type "list", none, .seq ys m, v⟩ ∧
        R (.ok (.ret (Value.ref s.heap.objs.size))) { s with heap := s.heap.push ⟨.type "list", none, .seq (xs ++ ys) 0, #[]⟩, toks := s.toks }) :=
  .of_wp fun prog w A R s h => by
    obtain ⟨hp, g, d, tk, os⟩ := s
    obtain ⟨hl, hb, h⟩ := h
    have f3 := AutoSeq1.sub_list_list
    wp_walk using AutoSeq1.wpAny_loadPart' hl, AutoSeq1.wpAny_loadPart' hb
    exact ⟨_, rfl, h⟩
def rCatS (K : PySem.W.Frag) : R2 := fun x y H Q => ∃ l b xs zs, x = .ref l ∧ y = .ref b ∧ SqL K H l xs ∧ SqL K H b zs ∧ xs.length + zs.length < 1000000 ∧ ∀ p, H p = none → Q (.ref p) (upd H p (.lst (xs ++ zs)))
theorem op_catS {X : Cx} : OpR X (binaryOp .Add) (rCatS X.K) := by
  intro pins s σ H x y v u Q I rx ry h
  obtain ⟨l, b, xs, zs, rfl, rfl, hl, hb, hz, q⟩ := h
  cases rx
  cases ry
  obtain ⟨its, r, ⟨o, n, e, hc, hd, hs⟩, _⟩ := I.list hl
  obtain ⟨its2, r2, ⟨o2, n2, e2, hc2, hd2, hs2⟩, _⟩ := I.list hb
  obtain ⟨c1, d1, da1, sl1⟩ := o
  obtain ⟨c2, d2, da2, sl2⟩ := o2
  cases hc; cases hd; cases hs; cases hc2; cases hd2; cases hs2
  have hz2 := line_le hz
  have e3 := r.length
  have e4 := r2.length
  refine concat_meets ⟨_, e, rfl⟩ ⟨_, e2, rfl⟩ noFill_list_add seq_list_add F.slot_list_add F.entry_list_add (F.args_list_add_2 _ _) (add_plain l its.toArray n sl1 b its2.toArray n2 sl2 (by simp only [List.size_toArray]; omega)) ⟨e, e2, ?_⟩
  have ea : its.toArray ++ its2.toArray = (its ++ its2).toArray := by simp
  rw [ea]
  exact ⟨.ref _, _, I.lnew (t' := s.toks) (r.append r2) (by rw [List.length_append]; omega), rfl, q _ I.fresh⟩
/-! ### loops -/
theorem for_list_call {K : PySem.W.Frag} {tl : TE} {g : TG} {tb : TS} {D : Ends} {σ : L2.St} {H : Hp} (C : Hp → Addr → List V → Prop) (h0 : ∀ Q : VK, (∀ H1 a xs, C H1 a xs → Q (.ref a) H1) → tl σ H Q)
    (hb : ∀ H1 a xs, C H1 a xs → SqL K H1 a xs ∧ ∃ Pv : Nat → L2.St → Hp → Prop, Pv 0 σ H1 ∧ (∀ i σ H, i ≤ xs.length → Pv i σ H → SqL K H a xs) ∧
      (∀ i x σ H, xs[i]? = some x → Pv i σ H → g x σ H fun σ2 H2 => tb { D with nx := Pv (i + 1), ct := Pv (i + 1), bk := D.nx } σ2 H2) ∧ (∀ σ H, Pv xs.length σ H → D.nx σ H)) : tFor (iList K tl) g tb D σ H :=
  h0 _ fun H1 a xs c => by
    obtain ⟨hS, Pv, p1, p2, p3, p4⟩ := hb H1 a xs c
    exact ⟨a, rfl, ⟨xs, hS⟩, for_list Pv p1 p2 p3 p4⟩
theorem for_range2_go {ta : TA} {g : TG} {tb : TS} {D : Ends} {σ : L2.St} {H H1 : Hp} {lo hi : Nat} (h0 : ∀ Q : List V → Hp → Prop, Q [.int (lo : Int), .int (hi : Int)] H1 → ta σ H Q) (hn : hi < 1000000) (hlo : lo ≤ hi) (Pv : Nat → L2.St → Hp → Prop) (hp : Pv lo σ H1)
    (hs : ∀ (i : Nat) σ H, lo ≤ i → i < hi → Pv i σ H → g (.int (i : Int)) σ H fun σ2 H2 => tb { D with nx := Pv (i + 1), ct := Pv (i + 1), bk := D.nx } σ2 H2) (hd : ∀ σ H, Pv hi σ H → D.nx σ H) : tFor (iRng2 ta) g tb D σ H :=
  h0 _ ⟨(lo : Int), (hi : Int), rfl, ⟨by omega, by omega, by omega, by omega⟩, by
    have e : ((hi : Int) - (lo : Int)).toNat = hi - lo := by omega
    rw [e]
    refine for_range (lo := (lo : Int)) (n := hi - lo) (fun i σ H => Pv (lo + i) σ H) hp (fun i σ H hi' p => ?_) fun σ H p => ?_
    · have := hs (lo + i) σ H (by omega) (by omega) p
      rw [Int.natCast_add] at this
      exact this
    · have e2 : lo + (hi - lo) = hi := by omega
      rw [e2] at p
      exact hd σ H p⟩
theorem same_put {H H' H4 : Hp} {D : Addr} {o : HO} (hD : H D = none) (s1 : Same H H') (s2 : Same H' H4) : Same H (upd H4 D o) := fun b o' e => by
  rw [upd_ne (ne_of_none e hD)]
  exact s2 b _ (s1 b _ e)
/-- a list of what a range's places give, what was stays -/
theorem lc_range_V {ta : TA} {g : TG} {tt : TT} {te : TE} {vs : List Nat} {σ : L2.St} {H : Hp} {Q : VK} {n : Nat} (f : Nat → V) (h0 : ∀ Q : List V → Hp → Prop, Q [.int (n : Int)] H → ta σ H Q) (hn : n < 1000000)
    (hs : ∀ (Qy : VK) (Qn : Hp → Prop) (i : Nat) (H' : Hp), i < n → Same H H' → (∀ H4, Same H' H4 → Qy (f i) H4) → g (.int (i : Int)) (wipe σ vs) H' fun σ2 H2 => wipe σ2 vs = wipe σ vs ∧ tt σ2 H2 fun b H3 => if b = true then te σ2 H3 Qy else Qn H3)
    (hd : ∀ D H', Same H H' → H' D = some (.lst ((List.range n).map f)) → Q (.ref D) H') : tLc (iRng1 ta) g tt te vs σ H Q := by
  refine lc_range_go (n := n) h0 (by omega) (fun D i H' => Same H H' ∧ H' D = some (.lst ((List.range i).map f))) (fun D hD => ⟨same_upd hD, upd_same⟩) ?_ fun D H' hD p => hd D H' p.1 p.2
  rintro D hD i H' hi ⟨s1, hD'⟩
  refine hs _ _ i H' hi s1 fun H4 s2 => ⟨_, s2 D _ hD', line_lt (by rw [List.length_map, List.length_range]; omega), same_put hD s1 s2, ?_⟩
  rw [upd_same, List.range_succ, List.map_append]
  rfl
theorem ni_map (f : Nat → Nat) (l : List Nat) : ni (l.map f) = l.map fun i => V.int ((f i : Nat) : Int) := by
  unfold ni
  rw [List.map_map]
  rfl
theorem lc_range_nat {ta : TA} {g : TG} {tt : TT} {te : TE} {vs : List Nat} {σ : L2.St} {H : Hp} {Q : VK} {n : Nat} (f : Nat → Nat) (h0 : ∀ Q : List V → Hp → Prop, Q [.int (n : Int)] H → ta σ H Q) (hn : n < 1000000)
    (hs : ∀ (Qy : VK) (Qn : Hp → Prop) (i : Nat) (H' : Hp), i < n → Same H H' → (∀ H4, Same H' H4 → Qy (.int ((f i : Nat) : Int)) H4) → g (.int (i : Int)) (wipe σ vs) H' fun σ2 H2 => wipe σ2 vs = wipe σ vs ∧ tt σ2 H2 fun b H3 => if b = true then te σ2 H3 Qy else Qn H3)
    (hd : ∀ D H', Same H H' → H' D = some (.lst (ni ((List.range n).map f))) → Q (.ref D) H') : tLc (iRng1 ta) g tt te vs σ H Q :=
  lc_range_V (fun i => V.int ((f i : Nat) : Int)) h0 hn hs fun D H' s h => hd D H' s (by rw [ni_map]; exact h)
theorem lc_range2_V {ta : TA} {g : TG} {tt : TT} {te : TE} {vs : List Nat} {σ : L2.St} {H : Hp} {Q : VK} {lo hi : Nat} (f : Nat → V) (h0 : ∀ Q : List V → Hp → Prop, Q [.int (lo : Int), .int (hi : Int)] H → ta σ H Q) (hn : hi < 1000000) (hlo : lo ≤ hi)
    (hs : ∀ (Qy : VK) (Qn : Hp → Prop) (i : Nat) (H' : Hp), i < hi - lo → Same H H' → (∀ H4, Same H' H4 → Qy (f i) H4) → g (.int ((lo + i : Nat) : Int)) (wipe σ vs) H' fun σ2 H2 => wipe σ2 vs = wipe σ vs ∧ tt σ2 H2 fun b H3 => if b = true then te σ2 H3 Qy else Qn H3)
    (hd : ∀ D H', Same H H' → H' D = some (.lst ((List.range (hi - lo)).map f)) → Q (.ref D) H') : tLc (iRng2 ta) g tt te vs σ H Q :=
  h0 _ ⟨(lo : Int), (hi : Int), rfl, ⟨by omega, by omega, by omega, by omega⟩, fun D hD => by
    have e : ((hi : Int) - (lo : Int)).toNat = hi - lo := by omega
    rw [e]
    refine lc_range (lo := (lo : Int)) (n := hi - lo) (fun i H' => Same H H' ∧ H' D = some (.lst ((List.range i).map f))) ⟨same_upd hD, upd_same⟩ ?_ fun H' p => hd D H' p.1 p.2
    rintro i H' hi' ⟨s1, hD'⟩
    rw [← Int.natCast_add]
    refine hs _ _ i H' hi' s1 fun H4 s2 => ⟨_, s2 D _ hD', line_lt (by rw [List.length_map, List.length_range]; omega), same_put hD s1 s2, ?_⟩
    rw [upd_same, List.range_succ, List.map_append]
    rfl⟩
/-- a list of rows, each made of a row of a list of rows -/
theorem lc_rows {K : PySem.W.Frag} {tl : TE} {g : TG} {tt : TT} {te : TE} {vs : List Nat} {σ : L2.St} {H : Hp} {Q : VK} {p : Addr} {rows : List (List Nat)} (f : List Nat → List Nat) (h0 : ∀ Q : VK, Q (.ref p) H → tl σ H Q) (hR : Rows K H p rows) (hn : rows.length < 1000000)
    (hs : ∀ (Qy : VK) (Qn : Hp → Prop) (i : Nat) (a : Addr) (r : List Nat) (H' : Hp), rows[i]? = some r → At K H' a r → Same H H' → (∀ H4 q, Same H' H4 → H' q = none → H4 q = some (.lst (ni (f r))) → Qy (.ref q) H4) →
      g (.ref a) (wipe σ vs) H' fun σ2 H2 => wipe σ2 vs = wipe σ vs ∧ tt σ2 H2 fun b H3 => if b = true then te σ2 H3 Qy else Qn H3)
    (hd : ∀ D H', Same H H' → Rows K H' D (rows.map f) → Q (.ref D) H') : tLc (iList K tl) g tt te vs σ H Q := by
  obtain ⟨as, hl, len, hrow⟩ := hR.ex
  refine h0 _ ⟨p, rfl, ⟨_, hl⟩, fun D hD => ?_⟩
  refine lc_list (xs := as.map V.ref) (fun i H' => Same H H' ∧ ∃ bs : List Addr, H' D = some (.lst (bs.map V.ref)) ∧ bs.length = i ∧ ∀ (j : Nat) (b : Addr) (r : List Nat), bs[j]? = some b → rows[j]? = some r → b ≠ D ∧ H' b = some (.lst (ni (f r))))
    ⟨same_upd hD, [], upd_same, rfl, fun j b r e => by simp at e⟩ (fun i H' _ z => z.1.seq hl) ?_ ?_
  · rintro i x H' hi ⟨s1, bs, hD', lb, hb⟩
    obtain ⟨a, ha, rfl⟩ := refs_get hi
    have hi' : i < rows.length := by rw [← len]; exact (List.getElem?_eq_some_iff.mp ha).1
    obtain ⟨r, hr⟩ : ∃ r, rows[i]? = some r := ⟨_, List.getElem?_eq_getElem hi'⟩
    refine hs _ _ i a r H' hr (At.mono s1 (hrow i a r ha hr)) s1 fun H4 q s2 hq h4 => ⟨_, s2 D _ hD', line_lt (by rw [List.length_map]; omega), same_put hD s1 s2, bs ++ [q], ?_, ?_, fun j b r' e1 e2 => ?_⟩
    · rw [upd_same, List.map_append]
      rfl
    · rw [List.length_append, lb]
      rfl
    · have nq : q ≠ D := fun z => by
        rw [z, hD'] at hq
        cases hq
      by_cases hj : j < bs.length
      · rw [List.getElem?_append_left hj] at e1
        obtain ⟨h1, h2⟩ := hb j b r' e1 e2
        refine ⟨h1, ?_⟩
        rw [upd_ne h1]
        exact s2 b _ h2
      · have hj' : j < (bs ++ [q]).length := (List.getElem?_eq_some_iff.mp e1).1
        rw [List.length_append, List.length_singleton] at hj'
        have ej : j = i := by omega
        subst ej
        rw [List.getElem?_append_right (by omega), lb, Nat.sub_self] at e1
        have eb : q = b := Option.some.inj e1
        subst eb
        rw [hr] at e2
        have er : r = r' := Option.some.inj e2
        subst er
        refine ⟨nq, ?_⟩
        rw [upd_ne nq]
        exact h4
  · rintro H' ⟨s1, bs, hD', lb, hb⟩
    rw [List.length_map] at lb
    refine hd D H' s1 ⟨bs, SqL.of hD', by rw [List.length_map, lb, len], fun j b r e1 e2 => ?_⟩
    rw [List.getElem?_map] at e2
    cases e : rows[j]? with
    | none => rw [e] at e2; cases e2
    | some z =>
      rw [e] at e2
      have e3 : f z = r := Option.some.inj e2
      rw [← e3]
      exact At.of (hb j b z e1 e).2
/-- rows + rows -/
theorem cat_rows {K : PySem.W.Frag} {H : Hp} {Q : VK} {p q : Addr} {a b : List (List Nat)} (hp : Rows K H p a) (hq : Rows K H q b) (hz : a.length + b.length < 1000000) (k : ∀ d H', Same H H' → Rows K H' d (a ++ b) → Q (.ref d) H') : rCatS K (.ref p) (.ref q) H Q := by
  obtain ⟨as, h1, l1, r1⟩ := hp.ex
  obtain ⟨bs, h2, l2, r2⟩ := hq.ex
  refine ⟨p, q, _, _, rfl, rfl, h1, h2, by rw [List.length_map, List.length_map, l1, l2]; exact hz, fun d hd => ?_⟩
  have s : Same H (upd H d (.lst (as.map V.ref ++ bs.map V.ref))) := same_upd hd
  refine k d _ s ⟨as ++ bs, SqL.of (by rw [upd_same, List.map_append]), by rw [List.length_append, List.length_append, l1, l2], fun j c r e1 e2 => ?_⟩
  by_cases hj : j < as.length
  · rw [List.getElem?_append_left hj] at e1
    rw [List.getElem?_append_left (by omega)] at e2
    exact At.mono s (r1 j c r e1 e2)
  · rw [List.getElem?_append_right (by omega)] at e1
    rw [List.getElem?_append_right (by omega), ← l1] at e2
    exact At.mono s (r2 _ c r e1 e2)
theorem cat_nats {K : PySem.W.Frag} {H : Hp} {Q : VK} {p q : Addr} {a b : List Nat} (hp : At K H p a) (hq : At K H q b) (hz : a.length + b.length < 1000000) (k : ∀ d, H d = none → Q (.ref d) (upd H d (.lst (ni (a ++ b))))) : rCatS K (.ref p) (.ref q) H Q :=
  ⟨p, q, _, _, rfl, rfl, hp, hq, by rw [ni_length, ni_length]; exact hz, fun d hd => by rw [← ni_append]; exact k d hd⟩
/-! ### sum, min -/
theorem cast_sum : ∀ l : List Nat, (l.map fun (x : Nat) => (x : Int)).sum = ((l.sum : Nat) : Int)
  | [] => rfl
  | x :: l => by rw [List.map_cons, List.sum_cons, List.sum_cons, cast_sum l, Int.natCast_add]
theorem ni_ints (l : List Nat) : (l.map fun (x : Nat) => (x : Int)).map V.int = ni l := by unfold ni; rw [List.map_map]; rfl
theorem sum_go {K : PySem.W.Frag} {H : Hp} {a : Addr} {l : List Nat} {Q : VK} (h : At K H a l) (k : Q (.int ((l.sum : Nat) : Int)) H) : rSum K [.ref a] H Q :=
  ⟨a, l.map fun (x : Nat) => (x : Int), rfl, by rw [ni_ints]; exact h, by rw [cast_sum]; exact k⟩
theorem min_go {K : PySem.W.Frag} {H : Hp} {a : Addr} {l : List Nat} {Q : VK} (h : At K H a l) (hne : 0 < l.length) (k : ∀ m : Nat, m ∈ l → (∀ y ∈ l, m ≤ y) → Q (.int (m : Int)) H) : rMin K [.ref a] H Q := by
  refine ⟨a, l.map fun (x : Nat) => (x : Int), rfl, by rw [ni_ints]; exact h, by rw [List.length_map]; exact hne, fun m hm hmin => ?_⟩
  obtain ⟨z, hz, rfl⟩ := List.mem_map.mp hm
  refine k z hz fun y hy => ?_
  have := hmin (y : Int) (List.mem_map.mpr ⟨y, hy, rfl⟩)
  omega
/-! ### bits -/
theorem xor_nat (a b : Nat) : Builtin.bitXor (a : Int) (b : Int) = ((a ^^^ b : Nat) : Int) := by
  rw [Bits.bitXor_pp (Int.natCast_nonneg a) (Int.natCast_nonneg b), Int.toNat_natCast, Int.toNat_natCast]
theorem and_nat (a b : Nat) : Builtin.bitAnd (a : Int) (b : Int) = ((a &&& b : Nat) : Int) := by
  rw [bitAnd_pp (Int.natCast_nonneg a) (Int.natCast_nonneg b), Int.toNat_natCast, Int.toNat_natCast]
/-! ### slices -/
theorem cut_to {l : List Nat} {a c : Nat} (h : a + c ≤ l.length) : cutV (ni l) (some ((a : Nat) : Int)) (some ((a + c : Nat) : Int)) = ni ((l.drop a).take c) := by
  rw [cut_ni, Nat.min_eq_left (by omega), Nat.min_eq_left (by omega), Nat.add_sub_cancel_left]
/-! ### requests -/
theorem args_ii2 {K : PySem.W.Frag} {H : Hp} {xs : List V} {k j : Int} {l1 l2 : List Int} (h : DwAll K H xs [.int k, .int j, .list (l1.map PySem.W.WData.int), .list (l2.map PySem.W.WData.int)]) :
    ∃ a1 a2, xs = [.int k, .int j, .ref a1, .ref a2] ∧ SqL K H a1 (l1.map V.int) ∧ SqL K H a2 (l2.map V.int) := by
  obtain ⟨vs, rfl, g0⟩ := args_i h
  obtain ⟨vs, rfl, g1⟩ := args_i g0
  obtain ⟨a1, vs, rfl, h1, g2⟩ := args_l g1
  obtain ⟨a2, vs, rfl, h2, g3⟩ := args_l g2
  rw [args_nil g3]
  exact ⟨a1, a2, rfl, h1, h2⟩
theorem args_ii3 {K : PySem.W.Frag} {H : Hp} {xs : List V} {k j : Int} {l1 l2 l3 : List Int} (h : DwAll K H xs [.int k, .int j, .list (l1.map PySem.W.WData.int), .list (l2.map PySem.W.WData.int), .list (l3.map PySem.W.WData.int)]) :
    ∃ a1 a2 a3, xs = [.int k, .int j, .ref a1, .ref a2, .ref a3] ∧ SqL K H a1 (l1.map V.int) ∧ SqL K H a2 (l2.map V.int) ∧ SqL K H a3 (l3.map V.int) := by
  obtain ⟨vs, rfl, g0⟩ := args_i h
  obtain ⟨vs, rfl, g1⟩ := args_i g0
  obtain ⟨a1, vs, rfl, h1, g2⟩ := args_l g1
  obtain ⟨a2, vs, rfl, h2, g3⟩ := args_l g2
  obtain ⟨a3, vs, rfl, h3, g4⟩ := args_l g3
  rw [args_nil g4]
  exact ⟨a1, a2, a3, rfl, h1, h2, h3⟩
end M

set_option Elab.async false
set_option linter.all false
set_option maxRecDepth 100000
set_option maxHeartbeats 4000000
namespace W
open PySem PySem.Spec PyProof.Rows L2
open PySem.W (Codec)
local macro_rules | `(tactic| walk_at "rd") => `(tactic| simp only [cxOf, Cx.nox, Cx.wish, L2.start, tSeq, tNext, tDrop, tRet, tRetN, tIfS, tAsg, gName, tVar, tC, tOp, tUn, rI, rI0, rU, rIxL, tTest, tB, tChain, tAnd, tOr, tNot, tAndV, tOrV, tNotV, tIf, tCall, tCons, tNil, tCB, tTup, tLst, tSl, tPart, tNoPart, rSlL, rEq, rNe, M.scal_int, tBM, tyV, rAppend, tBreak, tCont, L2.wipe, tYes, List.set_cons_zero, List.set_cons_succ, List.getElem?_cons_zero, List.getElem?_cons_succ, V.int.injEq, V.ref.injEq, V.bl.injEq, Option.some.injEq, List.cons.injEq, exists_eq_left', exists_eq_left, exists_eq', exists_eq, exists_and_left, and_true, true_and, List.append_nil, decide_eq_true_eq, Bool.not_eq_true', Bool.not_eq_true, decide_eq_false_iff_not, M.ite_iff, Classical.not_not, true_implies, false_implies, not_true_eq_false, not_false_eq_true, implies_true, forall_const, Bool.false_eq_true, Bool.true_eq_false, reduceCtorEq, Option.isSome_none, Option.isSome_some, Bool.not_true, Bool.not_false, eq_self, List.map_cons, List.map_nil, List.length_cons, List.length_nil, List.reduceReplicate, Nat.reduceAdd, Nat.reduceSub, List.cons_append, List.nil_append, Nat.zero_add, Nat.zero_le])
def top (i : Nat) : Stmt := PySem.Challenge.pw_bychance_s07_sc_check.main.body.getD i (.Pass ⟨0, 0, 0, 0⟩)
structure Txt (K : PySem.W.Frag) (mg : Str → Option Value) : Prop where
  PRIME : M.GI mg "PRIME" (65521)
  ARGUMENTS_REFUSED : M.GI mg "ARGUMENTS_REFUSED" (-2)
  CONTENT_REFUSED : M.GI mg "CONTENT_REFUSED" (-3)
  MOST_GATES : M.GI mg "MOST_GATES" (64)
  MOST_VARIABLES : M.GI mg "MOST_VARIABLES" (12)
  MOST_DEGREE : M.GI mg "MOST_DEGREE" (255)
  MOST_DEGREE_IN_ONE : M.GI mg "MOST_DEGREE_IN_ONE" (15)
  ROW_NUMBERS : M.GI mg "ROW_NUMBERS" (16)
  GATE_BYTES : M.GI mg "GATE_BYTES" (4)
  VARIABLE : M.GI mg "VARIABLE" (0)
  NUMBER : M.GI mg "NUMBER" (1)
  SUM : M.GI mg "SUM" (2)
  DIFFERENCE : M.GI mg "DIFFERENCE" (3)
  PRODUCT : M.GI mg "PRODUCT" (4)
  len : mg "len" = none
  max : mg "max" = none
  range : mg "range" = none
section
variable {P : Program} {w : World} {K : PySem.W.Frag} {mg : Str → Option Value} {base : Heap}
abbrev s_all_numbers : Stmt := top 15
theorem sc_all_numbers : FnScope ["values", "value"] ["values"] (defScope s_all_numbers) := ⟨rfl, rfl, rfl, by decide +kernel, rfl, by decide +kernel, by decide +kernel⟩
def sp_all_numbers (K : PySem.W.Frag) : Sp := fun vs H Q _ => ∃ (a : Addr) (l : List Nat), vs = [.ref a] ∧ M.At K H a l ∧ Q (.bl (Sv41.numbers l)) H
theorem numbers_take {l : List Nat} {i z : Nat} (hz : l[i]? = some z) (h : z < 65521) (hp : Sv41.numbers (l.take i) = true) : Sv41.numbers (l.take (i + 1)) = true := by
  rw [List.take_succ, hz, numbers_append, hp]
  show (true && ([z].all fun x => decide (x < Sv41.P))) = _
  rw [List.all_cons, List.all_nil, Bool.and_true, Bool.true_and]
  exact decide_eq_true h
theorem numbers_not {l : List Nat} {i z : Nat} (hz : l[i]? = some z) (h : 65521 ≤ z) : Sv41.numbers l = false := by
  cases q : Sv41.numbers l with
  | false => rfl
  | true => exact absurd (of_decide_eq_true (List.all_eq_true.mp q z (List.mem_of_getElem? hz))) (Nat.not_lt.mpr h)
theorem ok_all_numbers {f : Addr} {fd : FuncData} (D_all_numbers : M.Df K mg "all_numbers" s_all_numbers ["values"] f fd) (T : Txt K mg)  : M.Pr P w K mg base 1 "all_numbers" ["values"] (sp_all_numbers K) f fd := by
  refine M.Pr.of D_all_numbers sc_all_numbers (fun vs H Q E h => ?_) (fun cdv A outer s H vs Q E hr h => ?_)
  · obtain ⟨a, l, rfl, _⟩ := h
    rfl
  · obtain ⟨a, l, rfl, hS, k⟩ := h
    refine ⟨_, (pss_cons (ps_for PassesOwn.never rfl (pi_list (pv 0)) (pg_name (i := 1) sc_all_numbers.nd rfl (Or.inl rfl))
            (pss_one (ps_if (pt_not (pt_chain op_le op_lt pe_int (pv 1) (M.pe_gi T.PRIME)))
            (pss_one (ps_ret pe_bl))
            pss_nil)))
            (pss_one (ps_ret pe_bl))), ?_⟩
    refine M.seq_all fun R hR => ?_
    refine M.for_list_go (K := K) (a := a) (xs := M.ni l) (fun Q h => ⟨_, rfl, h⟩) hS (fun i σ H' => (∃ v, σ = [some (.ref a), v]) ∧ H' = H ∧ Sv41.numbers (l.take i) = true) ⟨⟨none, rfl⟩, rfl, rfl⟩ (fun i σ H' _ p => by rw [p.2.1]; exact hS) ?_ ?_
    · rintro i y σ H' hi ⟨⟨v, rfl⟩, rfl, hp⟩
      obtain ⟨z, hz, rfl⟩ := M.ni_get hi
      walk_at "rd"
      refine ⟨fun _ => ⟨fun hge => ?_, fun hlt => numbers_take hz (by omega) hp⟩, fun hneg => absurd (Int.natCast_nonneg z) hneg⟩
      rw [numbers_not hz (by omega)] at k
      exact k
    · rintro σ H' ⟨⟨v, rfl⟩, rfl, hp⟩
      show R _ _
      rw [hR]
      walk_at "rd"
      rw [M.ni_length, List.take_length] at hp
      rw [hp] at k
      exact k
abbrev s_gates_of : Stmt := top 16
theorem sc_gates_of : FnScope ["code", "gates", "place", "start"] ["code"] (defScope s_gates_of) := ⟨rfl, rfl, rfl, by decide +kernel, rfl, by decide +kernel, by decide +kernel⟩
def sp_gates_of (K : PySem.W.Frag) : Sp := fun vs H Q _ => ∃ (a : Addr) (l : List Nat) (g : Nat), vs = [.ref a] ∧ M.At K H a l ∧ l.length = 4 * g ∧ g ≤ 64 ∧ ∀ (H' : Hp) (p : Addr), Same H H' → M.Rows K H' p (chunks g l) → Q (.ref p) H'
theorem ok_gates_of {f : Addr} {fd : FuncData} (D_gates_of : M.Df K mg "gates_of" s_gates_of ["code"] f fd) (T : Txt K mg)  : M.Pr P w K mg base 1 "gates_of" ["code"] (sp_gates_of K) f fd := by
  refine M.Pr.of D_gates_of sc_gates_of (fun vs H Q E h => ?_) (fun cdv A outer s H vs Q E hr h => ?_)
  · obtain ⟨a, l, g, rfl, _⟩ := h
    rfl
  · obtain ⟨a, l, g, rfl, hS, hl, hg, q⟩ := h
    refine ⟨_, (pss_cons (ps_set (i := 1) sc_gates_of.nd rfl (Or.inl rfl) (pe_lst pa_nil))
            (pss_cons (ps_for PassesOwn.never rfl (pi_range1 rfl T.range (pa_cons (pe_op op_fdiv (pe_callB call_len_seq (by rfl) T.len PySem.boot_len (pa_cons (pv 0) pa_nil)) (M.pe_gi T.GATE_BYTES)) pa_nil)) (pg_name (i := 2) sc_gates_of.nd rfl (Or.inl rfl))
            (pss_cons (ps_set (i := 3) sc_gates_of.nd rfl (Or.inl rfl) (pe_op op_mul (M.pe_gi T.GATE_BYTES) (pv 2)))
            (pss_one (ps_expr (pe_bm PySem.F.plainAttrs_list PySem.F.slot_list_append PySem.F.type_list_append mt_append (pv 1) (pa_cons (pe_slice sl_list (pv 0) (po_some (pv 3)) (po_some (pe_op op_add (pv 3) (M.pe_gi T.GATE_BYTES)))) pa_nil))))))
            (pss_one (ps_ret (pv 1))))), ?_⟩
    refine M.seq_all fun R0 hR0 => ?_
    walk_at "rd"
    intro p hp
    rw [hR0]
    refine M.seq_all fun R hR => ?_
    have s0 : Same H (upd H p (.lst [])) := M.same_upd hp
    refine M.for_range_go (n := g) (H1 := upd H p (.lst [])) (fun Q h => ?_) (by omega) (fun i σ H' => (∃ (v2 v3 : Option V), σ = [some (.ref a), some (.ref p), v2, v3]) ∧ ∃ as : List Addr, Same H H' ∧ H' p = some (.lst (as.map V.ref)) ∧ as.length = i ∧
      ∀ (j : Nat) (b : Addr), as[j]? = some b → b ≠ p ∧ H' b = some (.lst (M.ni ((l.drop (4 * j)).take 4)))) ⟨⟨none, none, rfl⟩, [], s0, upd_same, rfl, fun j b e => by simp at e⟩ ?_ ?_
    · walk_at "rd"
      refine ⟨_, .inl (M.At.mono s0 hS), ⟨by decide, by decide⟩, ?_⟩
      have e : ((M.ni l).length : Int) / 4 = (g : Int) := by
        rw [M.ni_length, hl]
        omega
      rw [e]
      exact h
    · rintro i σ H' hi ⟨⟨v2, v3, rfl⟩, as, s1, hp', la, hb⟩
      refine M.seq_all fun R1 hR1 => ?_
      walk_at "rd"
      refine ⟨.inl ⟨by decide, by decide⟩, ?_⟩
      rw [hR1]
      walk_at "rd"
      refine ⟨.inl ⟨_, SqL.of hp'⟩, _, M.At.mono s1 hS, fun q hq => ?_⟩
      have e1 : (4 : Int) * (i : Int) = ((4 * i : Nat) : Int) := by omega
      have e2 : (4 : Int) * (i : Int) + 4 = ((4 * i + 4 : Nat) : Int) := by omega
      rw [e2, e1, M.cut_four hl hi]
      have npq : p ≠ q := ne_of_none hp' hq
      refine ⟨_, (by rw [upd_ne npq]; exact hp'), M.line_lt ?_, ?_⟩
      · rw [List.length_map, la]
        omega
      · refine ⟨fun b o e => ?_, as ++ [q], ?_, ?_, fun j b e => ?_⟩
        · have n1 : b ≠ p := ne_of_none e hp
          have e3 := s1 b o e
          rw [upd_ne n1, upd_ne (ne_of_none e3 hq)]
          exact e3
        · rw [upd_same, List.map_append]
          rfl
        · rw [List.length_append, la]
          rfl
        · by_cases hj : j < as.length
          · rw [List.getElem?_append_left hj] at e
            obtain ⟨h1, h2⟩ := hb j b e
            refine ⟨h1, ?_⟩
            rw [upd_ne h1, upd_ne (ne_of_none h2 hq)]
            exact h2
          · have hj' : j < (as ++ [q]).length := (List.getElem?_eq_some_iff.mp e).1
            rw [List.length_append, List.length_singleton] at hj'
            have ej : j = i := by omega
            subst ej
            rw [List.getElem?_append_right (by omega), la, Nat.sub_self] at e
            have eb : q = b := Option.some.inj e
            subst eb
            refine ⟨npq.symm, ?_⟩
            rw [upd_ne npq.symm, upd_same]
    · rintro σ H' ⟨⟨v2, v3, rfl⟩, as, s1, hp', la, hb⟩
      show R _ _
      rw [hR]
      walk_at "rd"
      refine q H' p s1 ⟨as, SqL.of hp', by rw [la, chunks_len], fun j b r e1 e2 => ?_⟩
      have hj : j < g := by rw [← la]; exact (List.getElem?_eq_some_iff.mp e1).1
      rw [chunks_get hj] at e2
      rw [← Option.some.inj e2]
      exact M.At.of (hb j b e1).2
abbrev s_number_of : Stmt := top 17
theorem sc_number_of : FnScope ["gate"] ["gate"] (defScope s_number_of) := ⟨rfl, rfl, rfl, by decide +kernel, rfl, by decide +kernel, by decide +kernel⟩
def sp_number_of (K : PySem.W.Frag) : Sp := fun vs H Q _ => ∃ (a : Addr) (x0 x1 x2 x3 : Nat), vs = [.ref a] ∧ M.At K H a [x0, x1, x2, x3] ∧ Q (.int ((x2 + 256 * x3 : Nat) : Int)) H
theorem ok_number_of {f : Addr} {fd : FuncData} (D_number_of : M.Df K mg "number_of" s_number_of ["gate"] f fd) (T : Txt K mg)  : M.Pr P w K mg base 1 "number_of" ["gate"] (sp_number_of K) f fd := by
  refine M.Pr.of D_number_of sc_number_of (fun vs H Q E h => ?_) (fun cdv A outer s H vs Q E hr h => ?_)
  · obtain ⟨a, x0, x1, x2, x3, rfl, _⟩ := h
    rfl
  · obtain ⟨a, x0, x1, x2, x3, rfl, hS, q⟩ := h
    refine ⟨_, (pss_one (ps_ret (pe_op op_add (pe_ix ix_list (pv 0) pe_int (fun _ _ => rfl)) (pe_op op_mul pe_int (pe_ix ix_list (pv 0) pe_int (fun _ _ => rfl)))))), ?_⟩
    walk_at "rd"
    refine ⟨_, hS, _, rfl, _, hS, _, rfl, _, rfl, .inl ⟨by decide, by decide⟩, _, rfl, ?_⟩
    have e : ((x2 + 256 * x3 : Nat) : Int) = (x2 : Int) + 256 * (x3 : Int) := by omega
    rw [e] at q
    exact q
abbrev s_is_gate : Stmt := top 18
theorem sc_is_gate : FnScope ["n", "gate", "place", "kind"] ["n", "gate", "place"] (defScope s_is_gate) := ⟨rfl, rfl, rfl, by decide +kernel, rfl, by decide +kernel, by decide +kernel⟩
def sp_is_gate (K : PySem.W.Frag) : Sp := fun vs H Q _ => ∃ (n i : Nat) (a : Addr) (x0 x1 x2 x3 : Nat), vs = [.int (n : Int), .ref a, .int (i : Int)] ∧ M.At K H a [x0, x1, x2, x3] ∧ ∀ H', Same H H' → Q (.bl (Sv41.gateOf n i [x0, x1, x2, x3]).isSome) H'
theorem ok_is_gate {f : Addr} {fd : FuncData} (D_is_gate : M.Df K mg "is_gate" s_is_gate ["n", "gate", "place"] f fd) (T : Txt K mg) {f_number_of : Addr} {fd_number_of : FuncData} (G_number_of : M.Pr P w K mg base 1 "number_of" ["gate"] (sp_number_of K) f_number_of fd_number_of) : M.Pr P w K mg base 2 "is_gate" ["n", "gate", "place"] (sp_is_gate K) f fd := by
  refine M.Pr.of D_is_gate sc_is_gate (fun vs H Q E h => ?_) (fun cdv A outer s H vs Q E hr h => ?_)
  · obtain ⟨n, i, a, x0, x1, x2, x3, rfl, _⟩ := h
    rfl
  · obtain ⟨n, i, a, x0, x1, x2, x3, rfl, hS, q⟩ := h
    refine ⟨_, (pss_cons (ps_set (i := 3) sc_is_gate.nd rfl (Or.inl rfl) (pe_ix ix_list (pv 1) pe_int (fun _ _ => rfl)))
            (pss_cons (ps_if (pt_cmpR op_eq (pv 3) (M.pe_gi T.VARIABLE) (nomark _))
            (pss_one (ps_ret (pe_and (pe_cmpR op_lt (pe_ix ix_list (pv 1) pe_int (fun _ _ => rfl)) (pv 0) (nomark _)) (pe_and (pe_cmpR op_eq (pe_ix ix_list (pv 1) pe_int (fun _ _ => rfl)) pe_int (nomark _)) (pe_one (pe_cmpR op_eq (pe_ix ix_list (pv 1) pe_int (fun _ _ => rfl)) pe_int (nomark _)))))))
            pss_nil)
            (pss_cons (ps_if (pt_cmpR op_eq (pv 3) (M.pe_gi T.NUMBER) (nomark _))
            (pss_one (ps_ret (pe_and (pe_cmpR op_eq (pe_ix ix_list (pv 1) pe_int (fun _ _ => rfl)) pe_int (nomark _)) (pe_one (pe_cmpR op_lt (M.pe_def G_number_of (hr.mono (by omega)) (pa_cons (pv 1) pa_nil)) (M.pe_gi T.PRIME) (nomark _))))))
            pss_nil)
            (pss_cons (ps_if (pt_cmpR op_in_seq (pv 3) (pe_tup (pa_cons (M.pe_gi T.SUM) (pa_cons (M.pe_gi T.DIFFERENCE) (pa_cons (M.pe_gi T.PRODUCT) pa_nil)))) (by with_unfolding_all rfl))
            (pss_one (ps_ret (pe_and (pe_cmpR op_lt (pe_ix ix_list (pv 1) pe_int (fun _ _ => rfl)) (pv 2) (nomark _)) (pe_and (pe_cmpR op_lt (pe_ix ix_list (pv 1) pe_int (fun _ _ => rfl)) (pv 2) (nomark _)) (pe_one (pe_cmpR op_eq (pe_ix ix_list (pv 1) pe_int (fun _ _ => rfl)) pe_int (nomark _)))))))
            pss_nil)
            (pss_one (ps_ret pe_bl)))))), ?_⟩
    have qq : ∀ (b : Bool) (H' : Hp), Same H H' → b = (Sv41.gateOf n i [x0, x1, x2, x3]).isSome → Q (.bl b) H' := fun b H' s1 e => by
      rw [e]
      exact q H' s1
    rw [gateOf_some] at qq
    have sr : Same H H := M.same_refl
    refine M.seq_all fun R1 hR1 => ?_
    walk_at "rd"
    refine ⟨_, hS, _, rfl, ?_⟩
    rw [hR1]
    refine M.seq_all fun R2 hR2 => ?_
    walk_at "rd"
    refine ⟨fun h0 => ?_, fun h0 => ?_⟩
    · rw [if_pos (show x0 = 0 by omega)] at qq
      refine ⟨_, hS, _, rfl, _, rfl, fun h1 => ⟨_, hS, _, rfl, rfl, fun h2 => ⟨_, hS, _, rfl, rfl, ?_⟩, fun h2 => ?_⟩, fun h1 => ?_⟩
      · have h2' := V.int.inj h2
        refine qq _ _ sr ?_
        simp only [M.vint_eq, decide_eq_decide]
        omega
      · refine qq _ _ sr (decide_eq_false ?_).symm
        intro z
        exact h2 (by rw [M.vint_eq]; omega)
      · refine qq _ _ sr (decide_eq_false ?_).symm
        omega
    · rw [if_neg (show ¬ x0 = 0 by omega)] at qq
      rw [hR2]
      refine M.seq_all fun R3 hR3 => ?_
      walk_at "rd"
      refine ⟨fun k1 => ?_, fun k1 => ?_⟩
      · rw [if_pos (show x0 = 1 by omega)] at qq
        refine ⟨_, hS, _, rfl, rfl, fun h1 => ⟨a, x0, x1, x2, x3, rfl, hS, _, rfl, ?_⟩, fun h1 => ?_⟩
        · have h1' := V.int.inj h1
          refine qq _ _ sr ?_
          simp only [decide_eq_decide]
          omega
        · refine qq _ _ sr (decide_eq_false ?_).symm
          intro z
          exact h1 (by rw [M.vint_eq]; omega)
      · rw [if_neg (show ¬ x0 = 1 by omega)] at qq
        rw [hR3]
        refine M.seq_all fun R4 hR4 => ?_
        walk_at "rd"
        refine ⟨M.line_le (by decide), fun p hp => ?_⟩
        have s1 : Same H (upd H p (.tup [.int 2, .int 3, .int 4])) := M.same_upd hp
        have hS1 := M.At.mono s1 hS
        refine ⟨p, _, rfl, .inr (SqT.of upd_same), rfl, rfl, _, rfl, fun hk => ?_, fun hk => ?_⟩
        · have hk2 : inV (V.int (x0 : Int)) [.int 2, .int 3, .int 4] = true := hk
          simp only [inV, eqV, List.any_cons, List.any_nil, Bool.or_false, Bool.or_eq_true, beq_iff_eq] at hk2
          rw [if_pos (show x0 = 2 ∨ x0 = 3 ∨ x0 = 4 by omega)] at qq
          refine ⟨_, hS1, _, rfl, _, rfl, fun h1 => ⟨_, hS1, _, rfl, _, rfl, fun h2 => ⟨_, hS1, _, rfl, rfl, ?_⟩, fun h2 => ?_⟩, fun h1 => ?_⟩
          · refine qq _ _ s1 ?_
            simp only [M.vint_eq, decide_eq_decide]
            omega
          · refine qq _ _ s1 (decide_eq_false ?_).symm
            omega
          · refine qq _ _ s1 (decide_eq_false ?_).symm
            omega
        · have hk2 : inV (V.int (x0 : Int)) [.int 2, .int 3, .int 4] = false := hk
          simp only [inV, eqV, List.any_cons, List.any_nil, Bool.or_false, Bool.or_eq_false_iff, beq_eq_false_iff_ne] at hk2
          rw [if_neg (show ¬ (x0 = 2 ∨ x0 = 3 ∨ x0 = 4) by omega)] at qq
          rw [hR4]
          walk_at "rd"
          exact qq _ _ s1 rfl
abbrev s_gate_degree : Stmt := top 19
theorem sc_gate_degree : FnScope ["gate", "counts", "before", "kind"] ["gate", "counts", "before"] (defScope s_gate_degree) := ⟨rfl, rfl, rfl, by decide +kernel, rfl, by decide +kernel, by decide +kernel⟩
def sp_gate_degree (K : PySem.W.Frag) : Sp := fun vs H Q _ => ∃ (a b c : Addr) (x0 x1 x2 x3 n : Nat) (before : List Nat) (v : Option Nat) (g : Sv41.Gate), vs = [.ref a, .ref b, .ref c] ∧ M.At K H a [x0, x1, x2, x3] ∧ M.At K H b (cnt n v) ∧ M.At K H c before ∧
  Sv41.gateOf n before.length [x0, x1, x2, x3] = some g ∧ Q (.int ((dstep v before g : Nat) : Int)) H
theorem ok_gate_degree {f : Addr} {fd : FuncData} (D_gate_degree : M.Df K mg "gate_degree" s_gate_degree ["gate", "counts", "before"] f fd) (T : Txt K mg)  : M.Pr P w K mg base 1 "gate_degree" ["gate", "counts", "before"] (sp_gate_degree K) f fd := by
  refine M.Pr.of D_gate_degree sc_gate_degree (fun vs H Q E h => ?_) (fun cdv A outer s H vs Q E hr h => ?_)
  · obtain ⟨a, b, c, x0, x1, x2, x3, n, before, v, g, rfl, _⟩ := h
    rfl
  · obtain ⟨a, b, c, x0, x1, x2, x3, n, before, v, g, rfl, hS, hb, hc, hg, q⟩ := h
    refine ⟨_, (pss_cons (ps_set (i := 3) sc_gate_degree.nd rfl (Or.inl rfl) (pe_ix ix_list (pv 0) pe_int (fun _ _ => rfl)))
            (pss_cons (ps_if (pt_cmpR op_eq (pv 3) (M.pe_gi T.VARIABLE) (nomark _))
            (pss_one (ps_ret (pe_ix ix_list (pv 1) (pe_ix ix_list (pv 0) pe_int (fun _ _ => rfl)) (fun _ _ => rfl))))
            pss_nil)
            (pss_cons (ps_if (pt_cmpR op_eq (pv 3) (M.pe_gi T.NUMBER) (nomark _))
            (pss_one (ps_ret pe_int))
            pss_nil)
            (pss_cons (ps_if (pt_cmpR op_eq (pv 3) (M.pe_gi T.PRODUCT) (nomark _))
            (pss_one (ps_ret (pe_op op_add (pe_ix ix_list (pv 2) (pe_ix ix_list (pv 0) pe_int (fun _ _ => rfl)) (fun _ _ => rfl)) (pe_ix ix_list (pv 2) (pe_ix ix_list (pv 0) pe_int (fun _ _ => rfl)) (fun _ _ => rfl)))))
            pss_nil)
            (pss_one (ps_ret (pe_callB (call_max2 rfl) (by rfl) T.max M.boot_max (pa_cons (pe_ix ix_list (pv 2) (pe_ix ix_list (pv 0) pe_int (fun _ _ => rfl)) (fun _ _ => rfl)) (pa_cons (pe_ix ix_list (pv 2) (pe_ix ix_list (pv 0) pe_int (fun _ _ => rfl)) (fun _ _ => rfl)) pa_nil))))))))), ?_⟩
    refine M.seq_all fun R1 hR1 => ?_
    walk_at "rd"
    refine ⟨_, hS, _, rfl, ?_⟩
    rw [hR1]
    refine M.seq_all fun R2 hR2 => ?_
    walk_at "rd"
    refine ⟨fun h0 => ?_, fun h0 => ?_⟩
    · obtain ⟨h1, rfl⟩ := gate_var hg (by omega)
      refine ⟨_, hS, _, rfl, _, _, rfl, hb, _, M.ni_at rfl (by rw [cnt_len]; exact h1), ?_⟩
      rw [cnt_get h1]
      exact q
    · rw [hR2]
      refine M.seq_all fun R3 hR3 => ?_
      walk_at "rd"
      refine ⟨fun k1 => ?_, fun k1 => ?_⟩
      · obtain ⟨h1, rfl⟩ := gate_num hg (by omega)
        exact q
      · obtain ⟨h1, h2, h3⟩ := gate_op hg (by omega) (by omega)
        rw [hR3]
        refine M.seq_all fun R4 hR4 => ?_
        walk_at "rd"
        refine ⟨fun k4 => ?_, fun k4 => ?_⟩
        · obtain rfl : g = .prod x1 x2 := by
            rcases h3 with ⟨e, _⟩ | ⟨e, _⟩ | ⟨_, e⟩
            · omega
            · omega
            · exact e
          refine ⟨_, hS, _, rfl, _, _, rfl, hc, _, M.ni_at rfl h1, _, hS, _, rfl, _, _, rfl, hc, _, M.ni_at rfl h2, _, rfl, _, rfl, ?_⟩
          have e : ((dstep v before (.prod x1 x2) : Nat) : Int) = ((before.getD x1 0 : Nat) : Int) + ((before.getD x2 0 : Nat) : Int) := Int.natCast_add _ _
          rw [e] at q
          exact q
        · have eg : dstep v before g = max (before.getD x1 0) (before.getD x2 0) := by
            rcases h3 with ⟨_, e⟩ | ⟨_, e⟩ | ⟨e, _⟩
            · rw [e]; rfl
            · rw [e]; rfl
            · omega
          rw [hR4]
          walk_at "rd"
          refine ⟨_, hS, _, rfl, _, _, rfl, hc, _, M.ni_at rfl h1, _, hS, _, rfl, _, _, rfl, hc, _, M.ni_at rfl h2, _, _, ⟨rfl, rfl⟩, ?_⟩
          rw [eg] at q
          have e : (if ((before.getD x2 0 : Nat) : Int) > ((before.getD x1 0 : Nat) : Int) then ((before.getD x2 0 : Nat) : Int) else ((before.getD x1 0 : Nat) : Int)) = ((max (before.getD x1 0) (before.getD x2 0) : Nat) : Int) := by
            split <;> omega
          rw [e]
          exact q
abbrev s_gate_degrees : Stmt := top 20
theorem sc_gate_degrees : FnScope ["gates", "counts", "degrees", "gate"] ["gates", "counts"] (defScope s_gate_degrees) := ⟨rfl, rfl, rfl, by decide +kernel, rfl, by decide +kernel, by decide +kernel⟩
def sp_gate_degrees (K : PySem.W.Frag) : Sp := fun vs H Q _ => ∃ (p b : Addr) (rows : List (List Nat)) (n : Nat) (v : Option Nat) (c : Sv41.Circuit), vs = [.ref p, .ref b] ∧ M.Rows K H p rows ∧ (∀ r ∈ rows, r.length = 4) ∧ rows.length ≤ 64 ∧ M.At K H b (cnt n v) ∧
  cf n 0 rows = some c ∧ ∀ (H' : Hp) (q : Addr), Same H H' → H' q = some (.lst (M.ni (Sv41.degreesOf v c))) → Q (.ref q) H'
theorem ok_gate_degrees {f : Addr} {fd : FuncData} (D_gate_degrees : M.Df K mg "gate_degrees" s_gate_degrees ["gates", "counts"] f fd) (T : Txt K mg) {f_gate_degree : Addr} {fd_gate_degree : FuncData} (G_gate_degree : M.Pr P w K mg base 1 "gate_degree" ["gate", "counts", "before"] (sp_gate_degree K) f_gate_degree fd_gate_degree) : M.Pr P w K mg base 2 "gate_degrees" ["gates", "counts"] (sp_gate_degrees K) f fd := by
  refine M.Pr.of D_gate_degrees sc_gate_degrees (fun vs H Q E h => ?_) (fun cdv A outer s H vs Q E hr h => ?_)
  · obtain ⟨p, b, rows, n, v, c, rfl, _⟩ := h
    rfl
  · obtain ⟨p, b, rows, n, v, c, rfl, hR, h4, h64, hb, hc, q⟩ := h
    refine ⟨_, (pss_cons (ps_set (i := 2) sc_gate_degrees.nd rfl (Or.inl rfl) (pe_lst pa_nil))
            (pss_cons (ps_for PassesOwn.never rfl (pi_list (pv 0)) (pg_name (i := 3) sc_gate_degrees.nd rfl (Or.inl rfl))
            (pss_one (ps_expr (pe_bm PySem.F.plainAttrs_list PySem.F.slot_list_append PySem.F.type_list_append mt_append (pv 2) (pa_cons (M.pe_def G_gate_degree (hr.mono (by omega)) (pa_cons (pv 3) (pa_cons (pv 1) (pa_cons (pv 2) pa_nil)))) pa_nil)))))
            (pss_one (ps_ret (pv 2))))), ?_⟩
    obtain ⟨as, hl, len, hrow⟩ := hR.ex
    refine M.seq_all fun R0 hR0 => ?_
    walk_at "rd"
    intro d hd
    rw [hR0]
    refine M.seq_all fun R hR' => ?_
    refine M.for_list_go (K := K) (a := p) (xs := as.map V.ref) (fun Q h => ⟨_, rfl, h⟩) ((M.same_upd hd).seq hl) (fun i σ H' => (∃ v3, σ = [some (.ref p), some (.ref b), some (.ref d), v3]) ∧ H' = upd H d (.lst (M.ni (Sv41.through (dstep v) (c.take i)))))
      ⟨⟨none, rfl⟩, rfl⟩ (fun i σ H' _ z => by rw [z.2]; exact (M.same_upd hd).seq hl) ?_ ?_
    · rintro i y σ H' hi ⟨⟨v3, rfl⟩, rfl⟩
      obtain ⟨a, ha, rfl⟩ := M.refs_get hi
      have hi' : i < rows.length := by rw [← len]; exact (List.getElem?_eq_some_iff.mp ha).1
      obtain ⟨r, hr⟩ : ∃ r, rows[i]? = some r := ⟨_, List.getElem?_eq_getElem hi'⟩
      obtain ⟨x0, x1, x2, x3, rfl⟩ := len4 (h4 r (List.mem_of_getElem? hr))
      obtain ⟨g, hg, hcg⟩ := cf_get hc i _ hr
      rw [Nat.zero_add] at hg
      have s1 : Same H (upd H d (.lst (M.ni (Sv41.through (dstep v) (c.take i))))) := M.same_upd hd
      have lb : (Sv41.through (dstep v) (c.take i)).length = i := by
        rw [through_len, List.length_take, cf_len hc]
        omega
      walk_at "rd"
      refine ⟨.inl ⟨_, SqL.of upd_same⟩, a, b, d, x0, x1, x2, x3, n, _, v, g, rfl, M.At.mono s1 (hrow i a _ ha hr), M.At.mono s1 hb, M.At.of upd_same, by rw [lb]; exact hg, _, upd_same, M.line_lt ?_, ?_⟩
      · rw [M.ni_length, lb]
        omega
      · rw [upd_upd, through_take_succ _ hcg, M.ni_append]
        rfl
    · rintro σ H' ⟨⟨v3, rfl⟩, rfl⟩
      show R _ _
      rw [hR']
      walk_at "rd"
      refine q _ d (M.same_upd hd) ?_
      rw [upd_same, List.length_map, len, ← cf_len hc, List.take_length]
      rfl
abbrev s_count_all : Stmt := top 21
theorem sc_count_all : FnScope ["n"] ["n"] (defScope s_count_all) := ⟨rfl, rfl, rfl, by decide +kernel, rfl, by decide +kernel, by decide +kernel⟩
def sp_count_all (K : PySem.W.Frag) : Sp := fun vs H Q _ => ∃ (n : Nat), vs = [.int (n : Int)] ∧ n ≤ 12 ∧ ∀ (H' : Hp) (q : Addr), Same H H' → H' q = some (.lst (M.ni (cnt n none))) → Q (.ref q) H'
theorem ok_count_all {f : Addr} {fd : FuncData} (D_count_all : M.Df K mg "count_all" s_count_all ["n"] f fd) (T : Txt K mg)  : M.Pr P w K mg base 1 "count_all" ["n"] (sp_count_all K) f fd := by
  refine M.Pr.of D_count_all sc_count_all (fun vs H Q E h => ?_) (fun cdv A outer s H vs Q E hr h => ?_)
  · obtain ⟨n, rfl, _⟩ := h
    rfl
  · obtain ⟨n, rfl, hn, q⟩ := h
    refine ⟨_, (pss_one (ps_ret (pe_op op_rep (pe_lst (pa_cons pe_int pa_nil)) (pv 0)))), ?_⟩
    walk_at "rd"
    refine ⟨M.line_le (by decide), fun p hp => ?_⟩
    refine ⟨p, _, _, rfl, rfl, upd_same, by omega, by omega, ?_, fun r hr => ?_⟩
    · show 1 * n ≤ sizeLine
      exact M.line_le (by omega)
    · refine q _ r ((M.same_upd hp).trans (M.same_upd hr)) ?_
      rw [upd_same, cnt_none]
      show some (HO.lst (List.replicate n [V.int 1]).flatten) = _
      rw [List.flatten_replicate_singleton]
      unfold M.ni
      rw [List.map_replicate]
      rfl
abbrev s_count_one : Stmt := top 22
theorem sc_count_one : FnScope ["n", "variable", "each"] ["n", "variable"] (defScope s_count_one) := ⟨rfl, rfl, rfl, by decide +kernel, rfl, by decide +kernel, by decide +kernel⟩
def sp_count_one (K : PySem.W.Frag) : Sp := fun vs H Q _ => ∃ (n v : Nat), vs = [.int (n : Int), .int (v : Int)] ∧ n ≤ 12 ∧ ∀ (H' : Hp) (q : Addr), Same H H' → H' q = some (.lst (M.ni (cnt n (some v)))) → Q (.ref q) H'
theorem ok_count_one {f : Addr} {fd : FuncData} (D_count_one : M.Df K mg "count_one" s_count_one ["n", "variable"] f fd) (T : Txt K mg)  : M.Pr P w K mg base 1 "count_one" ["n", "variable"] (sp_count_one K) f fd := by
  refine M.Pr.of D_count_one sc_count_one (fun vs H Q E h => ?_) (fun cdv A outer s H vs Q E hr h => ?_)
  · obtain ⟨n, v, rfl, _⟩ := h
    rfl
  · obtain ⟨n, v, rfl, hn, q⟩ := h
    refine ⟨_, (pss_one (ps_ret (pe_lc (own := [("each", 2)]) rfl sc_count_one.nd (pi_range1 rfl T.range (pa_cons (pv 0) pa_nil)) (blkOk_by (N := ["n", "variable", "each"]) (sc := defScope s_count_one) (by decide +kernel)) (fun _ _ _ _ _ => pg_name (i := 2) sc_count_one.nd rfl (Or.inl rfl)) (fun _ _ _ _ _ => pts_nil) (fun _ _ _ _ _ => (pe_ifExp (pt_cmpR op_eq (pv 2) (pv 1) (nomark _)) pe_int pe_int))))), ?_⟩
    walk_at "rd"
    refine M.lc_range_go (n := n) (fun Q h => ⟨_, rfl, h⟩) (by omega) (fun D i H' => H' = upd H D (.lst (M.ni ((cnt n (some v)).take i)))) (fun D hD => rfl) ?_ ?_
    · rintro D hD i H' hi rfl
      walk_at "rd"
      have lt : (M.ni ((cnt n (some v)).take i)).length < sizeLine := M.line_lt (by rw [M.ni_length, List.length_take, cnt_len]; omega)
      refine ⟨fun h => ⟨_, upd_same, lt, ?_⟩, fun h => ⟨_, upd_same, lt, ?_⟩⟩
      · rw [upd_upd, cnt_take_succ hi, if_pos (by omega), M.ni_append]
        rfl
      · rw [upd_upd, cnt_take_succ hi, if_neg (by omega), M.ni_append]
        rfl
    · rintro D H' hD rfl
      refine q _ D (M.same_upd hD) ?_
      rw [upd_same, show (cnt n (some v)).take n = cnt n (some v) from List.take_of_length_le (by rw [cnt_len]; exact Nat.le_refl _)]
abbrev s_degrees_hold : Stmt := top 23
theorem sc_degrees_hold : FnScope ["n", "gates", "variable"] ["n", "gates"] (defScope s_degrees_hold) := ⟨rfl, rfl, rfl, by decide +kernel, rfl, by decide +kernel, by decide +kernel⟩
def sp_degrees_hold (K : PySem.W.Frag) : Sp := fun vs H Q _ => ∃ (n : Nat) (p : Addr) (rows : List (List Nat)) (c : Sv41.Circuit), vs = [.int (n : Int), .ref p] ∧ n ≤ 12 ∧ M.Rows K H p rows ∧ (∀ r ∈ rows, r.length = 4) ∧ 1 ≤ rows.length ∧ rows.length ≤ 64 ∧
  cf n 0 rows = some c ∧ ∀ H', Same H H' → Q (.bl (okdeg n c)) H'
theorem ok_degrees_hold {f : Addr} {fd : FuncData} (D_degrees_hold : M.Df K mg "degrees_hold" s_degrees_hold ["n", "gates"] f fd) (T : Txt K mg) {f_gate_degrees : Addr} {fd_gate_degrees : FuncData} (G_gate_degrees : M.Pr P w K mg base 2 "gate_degrees" ["gates", "counts"] (sp_gate_degrees K) f_gate_degrees fd_gate_degrees) {f_count_one : Addr} {fd_count_one : FuncData} (G_count_one : M.Pr P w K mg base 1 "count_one" ["n", "variable"] (sp_count_one K) f_count_one fd_count_one) {f_count_all : Addr} {fd_count_all : FuncData} (G_count_all : M.Pr P w K mg base 1 "count_all" ["n"] (sp_count_all K) f_count_all fd_count_all) : M.Pr P w K mg base 3 "degrees_hold" ["n", "gates"] (sp_degrees_hold K) f fd := by
  refine M.Pr.of D_degrees_hold sc_degrees_hold (fun vs H Q E h => ?_) (fun cdv A outer s H vs Q E hr h => ?_)
  · obtain ⟨n, p, rows, c, rfl, _⟩ := h
    rfl
  · obtain ⟨n, p, rows, c, rfl, hn, hR, h4, h1, h64, hc, q⟩ := h
    refine ⟨_, (pss_cons (ps_if (pt_cmpR op_gt (pe_callB (cr_max rfl) (by rfl) T.max M.boot_max (pa_cons (M.pe_def G_gate_degrees (hr.mono (by omega)) (pa_cons (pv 1) (pa_cons (M.pe_def G_count_all (hr.mono (by omega)) (pa_cons (pv 0) pa_nil)) pa_nil))) pa_nil)) (M.pe_gi T.MOST_DEGREE) (nomark _))
            (pss_one (ps_ret pe_bl))
            pss_nil)
            (pss_cons (ps_for PassesOwn.never rfl (pi_range1 rfl T.range (pa_cons (pv 0) pa_nil)) (pg_name (i := 2) sc_degrees_hold.nd rfl (Or.inl rfl))
            (pss_one (ps_if (pt_cmpR op_gt (pe_callB (cr_max rfl) (by rfl) T.max M.boot_max (pa_cons (M.pe_def G_gate_degrees (hr.mono (by omega)) (pa_cons (pv 1) (pa_cons (M.pe_def G_count_one (hr.mono (by omega)) (pa_cons (pv 0) (pa_cons (pv 2) pa_nil))) pa_nil))) pa_nil)) (M.pe_gi T.MOST_DEGREE_IN_ONE) (nomark _))
            (pss_one (ps_ret pe_bl))
            pss_nil)))
            (pss_one (ps_ret pe_bl)))), ?_⟩
    refine M.seq_all fun R1 hR1 => ?_
    walk_at "rd"
    have lc : c.length = rows.length := cf_len hc
    refine ⟨n, rfl, hn, fun H1 q1 s1 h1' => ⟨p, q1, rows, n, none, c, rfl, hR.mono s1, h4, h64, M.At.of h1', hc, fun H2 q2 s2 h2 => M.max_go (M.At.of h2) (by rw [degrees_len]; omega) fun m hm hmax => ⟨_, rfl, fun hgt => ?_, fun hle => ?_⟩⟩⟩
    · have e := okdeg_no0 (n := n) (c := c) (by rw [all_le_of_max hm hmax]; exact decide_eq_false (by omega))
      rw [e] at q
      exact q H2 (s1.trans s2)
    · have ok0 : ((Sv41.degreesOf none c).all fun d => decide (d ≤ 255)) = true := by
        rw [all_le_of_max hm hmax]
        exact decide_eq_true (by omega)
      rw [hR1]
      refine M.seq_all fun R2 hR2 => ?_
      refine M.for_range_go (n := n) (H1 := H2) (fun Q h => ⟨_, rfl, h⟩) (by omega) (fun i σ H' => (∃ v2, σ = [some (.int (n : Int)), some (.ref p), v2]) ∧ Same H H' ∧ ∀ v, v < i → ((Sv41.degreesOf (some v) c).all fun d => decide (d ≤ 15)) = true)
        ⟨⟨none, rfl⟩, s1.trans s2, fun v hv => absurd hv (Nat.not_lt_zero _)⟩ ?_ ?_
      · rintro i σ H' hi ⟨⟨v2, rfl⟩, s3, hall⟩
        walk_at "rd"
        refine ⟨n, i, rfl, hn, fun H3 q3 s4 h3 => ⟨p, q3, rows, n, some i, c, rfl, hR.mono (s3.trans s4), h4, h64, M.At.of h3, hc, fun H4 q4 s5 h4' => M.max_go (M.At.of h4') (by rw [degrees_len]; omega) fun m' hm' hmax' => ⟨_, rfl, fun hgt => ?_, fun hle' => ?_⟩⟩⟩
        · have e := okdeg_no1 (n := n) (c := c) hi (by rw [all_le_of_max hm' hmax']; exact decide_eq_false (by omega))
          rw [e] at q
          exact q H4 ((s3.trans s4).trans s5)
        · refine ⟨(s3.trans s4).trans s5, fun v hv => ?_⟩
          by_cases ev : v = i
          · subst ev
            rw [all_le_of_max hm' hmax']
            exact decide_eq_true (by omega)
          · exact hall v (by omega)
      · rintro σ H' ⟨⟨v2, rfl⟩, s3, hall⟩
        show R2 _ _
        rw [hR2]
        walk_at "rd"
        rw [okdeg_all (m := 0) hall ok0] at q
        exact q H' s3
abbrev s_greatest_last_degree : Stmt := top 24
theorem sc_greatest_last_degree : FnScope ["n", "gates", "variable"] ["n", "gates"] (defScope s_greatest_last_degree) := ⟨rfl, rfl, rfl, by decide +kernel, rfl, by decide +kernel, by decide +kernel⟩
def sp_greatest_last_degree (K : PySem.W.Frag) : Sp := fun vs H Q _ => ∃ (n : Nat) (p : Addr) (rows : List (List Nat)) (c : Sv41.Circuit), vs = [.int (n : Int), .ref p] ∧ 1 ≤ n ∧ n ≤ 12 ∧ M.Rows K H p rows ∧ (∀ r ∈ rows, r.length = 4) ∧ 1 ≤ rows.length ∧ rows.length ≤ 64 ∧
  cf n 0 rows = some c ∧ ∀ H', Same H H' → Q (.int ((Sv41.each n c : Nat) : Int)) H'
theorem ok_greatest_last_degree {f : Addr} {fd : FuncData} (D_greatest_last_degree : M.Df K mg "greatest_last_degree" s_greatest_last_degree ["n", "gates"] f fd) (T : Txt K mg) {f_gate_degrees : Addr} {fd_gate_degrees : FuncData} (G_gate_degrees : M.Pr P w K mg base 2 "gate_degrees" ["gates", "counts"] (sp_gate_degrees K) f_gate_degrees fd_gate_degrees) {f_count_one : Addr} {fd_count_one : FuncData} (G_count_one : M.Pr P w K mg base 1 "count_one" ["n", "variable"] (sp_count_one K) f_count_one fd_count_one) : M.Pr P w K mg base 3 "greatest_last_degree" ["n", "gates"] (sp_greatest_last_degree K) f fd := by
  refine M.Pr.of D_greatest_last_degree sc_greatest_last_degree (fun vs H Q E h => ?_) (fun cdv A outer s H vs Q E hr h => ?_)
  · obtain ⟨n, p, rows, c, rfl, _⟩ := h
    rfl
  · obtain ⟨n, p, rows, c, rfl, hn1, hn, hR, h4, h1, h64, hc, q⟩ := h
    refine ⟨_, (pss_one (ps_ret (pe_callB (cr_max rfl) (by rfl) T.max M.boot_max (pa_cons (pe_lc (own := [("variable", 2)]) rfl sc_greatest_last_degree.nd (pi_range1 rfl T.range (pa_cons (pv 0) pa_nil)) (blkOk_by (N := ["n", "gates", "variable"]) (sc := defScope s_greatest_last_degree) (by decide +kernel)) (fun _ _ _ _ _ => pg_name (i := 2) sc_greatest_last_degree.nd rfl (Or.inl rfl)) (fun _ _ _ _ _ => pts_nil) (fun _ _ _ _ _ => (pe_ix (show IxR _ (rIxL K) from ix_list) (M.pe_def G_gate_degrees (hr.mono (by omega)) (pa_cons (pv 1) (pa_cons (M.pe_def G_count_one (hr.mono (by omega)) (pa_cons (pv 0) (pa_cons (pv 2) pa_nil))) pa_nil))) (pe_un un_neg pe_int) (fun _ _ => rfl)))) pa_nil)))), ?_⟩
    walk_at "rd"
    refine M.lc_range_nat (n := n) (fun v => Sv41.degree (some v) c) (fun Q h => ⟨_, rfl, h⟩) (by omega) ?_ ?_
    · intro Qy Qn i H' hi s1 k
      walk_at "rd"
      refine ⟨n, i, rfl, hn, fun H3 q3 s3 h3 => ⟨p, q3, rows, n, some i, c, rfl, hR.mono (s1.trans s3), h4, h64, M.At.of h3, hc, fun H4 q4 s4 h5 => ⟨_, rfl, _, SqL.of h5, _, M.ni_last ?_, k H4 (s3.trans s4)⟩⟩⟩
      intro z
      have := degrees_len (some i) c
      rw [z, cf_len hc] at this
      simp at this
      omega
    · intro D H' s1 hD
      refine M.max_go (M.At.of hD) (by rw [List.length_map, List.length_range]; omega) fun m hm hmax => ?_
      rw [← each_eq hm hmax]
      exact q H' s1
abbrev s_is_circuit : Stmt := top 25
theorem sc_is_circuit : FnScope ["n", "gates", "place"] ["n", "gates"] (defScope s_is_circuit) := ⟨rfl, rfl, rfl, by decide +kernel, rfl, by decide +kernel, by decide +kernel⟩
def sp_is_circuit (K : PySem.W.Frag) : Sp := fun vs H Q _ => ∃ (n : Nat) (p : Addr) (rows : List (List Nat)), vs = [.int (n : Int), .ref p] ∧ n ≤ 12 ∧ M.Rows K H p rows ∧ (∀ r ∈ rows, r.length = 4) ∧ 1 ≤ rows.length ∧ rows.length ≤ 64 ∧
  ∀ H', Same H H' → Q (.bl (circ n rows).isSome) H'
theorem ok_is_circuit {f : Addr} {fd : FuncData} (D_is_circuit : M.Df K mg "is_circuit" s_is_circuit ["n", "gates"] f fd) (T : Txt K mg) {f_degrees_hold : Addr} {fd_degrees_hold : FuncData} (G_degrees_hold : M.Pr P w K mg base 3 "degrees_hold" ["n", "gates"] (sp_degrees_hold K) f_degrees_hold fd_degrees_hold) {f_is_gate : Addr} {fd_is_gate : FuncData} (G_is_gate : M.Pr P w K mg base 2 "is_gate" ["n", "gate", "place"] (sp_is_gate K) f_is_gate fd_is_gate) : M.Pr P w K mg base 4 "is_circuit" ["n", "gates"] (sp_is_circuit K) f fd := by
  refine M.Pr.of D_is_circuit sc_is_circuit (fun vs H Q E h => ?_) (fun cdv A outer s H vs Q E hr h => ?_)
  · obtain ⟨n, p, rows, rfl, _⟩ := h
    rfl
  · obtain ⟨n, p, rows, rfl, hn, hR, h4, h1, h64, q⟩ := h
    refine ⟨_, (pss_cons (ps_for PassesOwn.never rfl (pi_range1 rfl T.range (pa_cons (pe_callB call_len_seq (by rfl) T.len PySem.boot_len (pa_cons (pv 1) pa_nil)) pa_nil)) (pg_name (i := 2) sc_is_circuit.nd rfl (Or.inl rfl))
            (pss_one (ps_if (pt_not (pt_val (M.pe_def G_is_gate (hr.mono (by omega)) (pa_cons (pv 0) (pa_cons (pe_ix ix_list (pv 1) (pv 2) (fun _ _ => rfl)) (pa_cons (pv 2) pa_nil))))))
            (pss_one (ps_ret pe_bl))
            pss_nil)))
            (pss_one (ps_ret (M.pe_def G_degrees_hold (hr.mono (by omega)) (pa_cons (pv 0) (pa_cons (pv 1) pa_nil)))))), ?_⟩
    obtain ⟨as, hl, len, hrow⟩ := hR.ex
    refine M.seq_all fun R1 hR1 => ?_
    refine M.for_range_go (n := rows.length) (H1 := H) (fun Q h => ?_) (by omega) (fun i σ H' => (∃ v2, σ = [some (.int (n : Int)), some (.ref p), v2]) ∧ Same H H' ∧ ∃ c, cf n 0 (rows.take i) = some c) ⟨⟨none, rfl⟩, M.same_refl, [], rfl⟩ ?_ ?_
    · walk_at "rd"
      refine ⟨_, .inl hl, ?_⟩
      rw [List.length_map, len]
      exact h
    · rintro i σ H' hi ⟨⟨v2, rfl⟩, s1, c, hc⟩
      obtain ⟨r, hr⟩ : ∃ r, rows[i]? = some r := ⟨_, List.getElem?_eq_getElem hi⟩
      obtain ⟨a, ha⟩ : ∃ a, as[i]? = some a := ⟨_, List.getElem?_eq_getElem (by rw [len]; exact hi)⟩
      obtain ⟨x0, x1, x2, x3, rfl⟩ := len4 (h4 r (List.mem_of_getElem? hr))
      have step := cf_take_succ (n := n) hr
      rw [hc] at step
      walk_at "rd"
      refine ⟨_, s1.seq hl, _, M.refs_at ha, n, i, a, x0, x1, x2, x3, rfl, M.At.mono s1 (hrow i a _ ha hr), fun H2 s2 => ⟨_, rfl, ?_⟩⟩
      cases e : Sv41.gateOf n i [x0, x1, x2, x3] with
      | none =>
        walk_at "rd"
        have z : cf n 0 (rows.take (i + 1)) = none := by
          rw [step, e]
          rfl
        have z2 : cf n 0 rows = none := by
          rw [← List.take_append_drop (i + 1) rows]
          exact cf_none_of z
        have q2 := q H2 (s1.trans s2)
        rw [circ_none z2] at q2
        exact q2
      | some g =>
        walk_at "rd"
        refine ⟨s1.trans s2, c ++ [g], ?_⟩
        rw [step, e]
        rfl
    · rintro σ H' ⟨⟨v2, rfl⟩, s1, c, hc⟩
      rw [List.take_length] at hc
      show R1 _ _
      rw [hR1]
      walk_at "rd"
      refine ⟨n, p, rows, c, rfl, hn, hR.mono s1, h4, h1, h64, hc, fun H2 s2 => ?_⟩
      rw [← circ_is hc]
      exact q H2 (s1.trans s2)
abbrev s_gate_value : Stmt := top 26
theorem sc_gate_value : FnScope ["gate", "x", "before", "kind", "first", "second"] ["gate", "x", "before"] (defScope s_gate_value) := ⟨rfl, rfl, rfl, by decide +kernel, rfl, by decide +kernel, by decide +kernel⟩
def sp_gate_value (K : PySem.W.Frag) : Sp := fun vs H Q _ => ∃ (a b c : Addr) (x0 x1 x2 x3 n : Nat) (x before : List Nat) (g : Sv41.Gate), vs = [.ref a, .ref b, .ref c] ∧ M.At K H a [x0, x1, x2, x3] ∧ M.At K H b x ∧ M.At K H c before ∧
  Sv41.gateOf n before.length [x0, x1, x2, x3] = some g ∧ x.length = n ∧ Sv41.numbers x = true ∧ (∀ y ∈ before, y < 65521) ∧ Q (.int ((vstep x before g : Nat) : Int)) H
theorem ok_gate_value {f : Addr} {fd : FuncData} (D_gate_value : M.Df K mg "gate_value" s_gate_value ["gate", "x", "before"] f fd) (T : Txt K mg) {f_number_of : Addr} {fd_number_of : FuncData} (G_number_of : M.Pr P w K mg base 1 "number_of" ["gate"] (sp_number_of K) f_number_of fd_number_of) : M.Pr P w K mg base 2 "gate_value" ["gate", "x", "before"] (sp_gate_value K) f fd := by
  refine M.Pr.of D_gate_value sc_gate_value (fun vs H Q E h => ?_) (fun cdv A outer s H vs Q E hr h => ?_)
  · obtain ⟨a, b, c, x0, x1, x2, x3, n, x, before, g, rfl, _⟩ := h
    rfl
  · obtain ⟨a, b, c, x0, x1, x2, x3, n, x, before, g, rfl, hS, hb, hc, hg, lx, nx, bb, q⟩ := h
    refine ⟨_, (pss_cons (ps_set (i := 3) sc_gate_value.nd rfl (Or.inl rfl) (pe_ix ix_list (pv 0) pe_int (fun _ _ => rfl)))
            (pss_cons (ps_if (pt_cmpR op_eq (pv 3) (M.pe_gi T.VARIABLE) (nomark _))
            (pss_one (ps_ret (pe_ix ix_list (pv 1) (pe_ix ix_list (pv 0) pe_int (fun _ _ => rfl)) (fun _ _ => rfl))))
            pss_nil)
            (pss_cons (ps_if (pt_cmpR op_eq (pv 3) (M.pe_gi T.NUMBER) (nomark _))
            (pss_one (ps_ret (M.pe_def G_number_of (hr.mono (by omega)) (pa_cons (pv 0) pa_nil))))
            pss_nil)
            (pss_cons (ps_set (i := 4) sc_gate_value.nd rfl (Or.inl rfl) (pe_ix ix_list (pv 2) (pe_ix ix_list (pv 0) pe_int (fun _ _ => rfl)) (fun _ _ => rfl)))
            (pss_cons (ps_set (i := 5) sc_gate_value.nd rfl (Or.inl rfl) (pe_ix ix_list (pv 2) (pe_ix ix_list (pv 0) pe_int (fun _ _ => rfl)) (fun _ _ => rfl)))
            (pss_cons (ps_if (pt_cmpR op_eq (pv 3) (M.pe_gi T.SUM) (nomark _))
            (pss_one (ps_ret (pe_op op_mod (pe_op op_add (pv 4) (pv 5)) (M.pe_gi T.PRIME))))
            pss_nil)
            (pss_cons (ps_if (pt_cmpR op_eq (pv 3) (M.pe_gi T.DIFFERENCE) (nomark _))
            (pss_one (ps_ret (pe_op op_mod (pe_op op_sub (pv 4) (pv 5)) (M.pe_gi T.PRIME))))
            pss_nil)
            (pss_one (ps_ret (pe_op op_mod (pe_op op_mul (pv 4) (pv 5)) (M.pe_gi T.PRIME))))))))))), ?_⟩
    refine M.seq_all fun R1 hR1 => ?_
    walk_at "rd"
    refine ⟨_, hS, _, rfl, ?_⟩
    rw [hR1]
    refine M.seq_all fun R2 hR2 => ?_
    walk_at "rd"
    refine ⟨fun h0 => ?_, fun h0 => ?_⟩
    · obtain ⟨h1, rfl⟩ := gate_var hg (by omega)
      refine ⟨_, hS, _, rfl, _, _, rfl, hb, _, M.ni_at rfl (by rw [lx]; exact h1), ?_⟩
      have e : vstep x before (.var x1) = x.getD x1 0 := Nat.mod_eq_of_lt (numbers_get nx x1)
      rw [e] at q
      exact q
    · rw [hR2]
      refine M.seq_all fun R3 hR3 => ?_
      walk_at "rd"
      refine ⟨fun k1 => ?_, fun k1 => ?_⟩
      · obtain ⟨h1, rfl⟩ := gate_num hg (by omega)
        have e : vstep x before (.num (x2 + 256 * x3)) = x2 + 256 * x3 := Nat.mod_eq_of_lt h1
        rw [e] at q
        exact ⟨a, x0, x1, x2, x3, rfl, hS, q⟩
      · obtain ⟨h1, h2, h3⟩ := gate_op hg (by omega) (by omega)
        rw [hR3]
        refine M.seq_all fun R4 hR4 => ?_
        walk_at "rd"
        refine ⟨_, hS, _, rfl, _, _, rfl, hc, _, M.ni_at rfl h1, ?_⟩
        rw [hR4]
        refine M.seq_all fun R5 hR5 => ?_
        walk_at "rd"
        refine ⟨_, hS, _, rfl, _, _, rfl, hc, _, M.ni_at rfl h2, ?_⟩
        rw [hR5]
        refine M.seq_all fun R6 hR6 => ?_
        walk_at "rd"
        refine ⟨fun k2 => ⟨by decide, ?_⟩, fun k2 => ?_⟩
        · obtain rfl : g = .sum x1 x2 := by
            rcases h3 with ⟨_, e⟩ | ⟨e, _⟩ | ⟨e, _⟩
            · exact e
            · omega
            · omega
          rw [← add_int]
          exact q
        · rw [hR6]
          refine M.seq_all fun R7 hR7 => ?_
          walk_at "rd"
          refine ⟨fun k3 => ⟨by decide, ?_⟩, fun k3 => ?_⟩
          · obtain rfl : g = .less x1 x2 := by
              rcases h3 with ⟨e, _⟩ | ⟨_, e⟩ | ⟨e, _⟩
              · omega
              · exact e
              · omega
            rw [← sub_int]
            exact q
          · obtain rfl : g = .prod x1 x2 := by
              rcases h3 with ⟨e, _⟩ | ⟨e, _⟩ | ⟨_, e⟩
              · omega
              · omega
              · exact e
            rw [hR7]
            walk_at "rd"
            have b1 := M.getD_lt bb (by decide) x1
            refine ⟨.inl ⟨by omega, by omega⟩, by decide, ?_⟩
            rw [← mul_int]
            exact q
abbrev s_circuit_value : Stmt := top 27
theorem sc_circuit_value : FnScope ["gates", "x", "values", "gate"] ["gates", "x"] (defScope s_circuit_value) := ⟨rfl, rfl, rfl, by decide +kernel, rfl, by decide +kernel, by decide +kernel⟩
def sp_circuit_value (K : PySem.W.Frag) : Sp := fun vs H Q _ => ∃ (p b : Addr) (rows : List (List Nat)) (n : Nat) (x : List Nat) (c : Sv41.Circuit), vs = [.ref p, .ref b] ∧ M.Rows K H p rows ∧ (∀ r ∈ rows, r.length = 4) ∧ 1 ≤ rows.length ∧ rows.length ≤ 64 ∧ M.At K H b x ∧
  x.length = n ∧ Sv41.numbers x = true ∧ cf n 0 rows = some c ∧ ∀ (H' : Hp), Same H H' → Q (.int ((Sv41.value c x : Nat) : Int)) H'
theorem ok_circuit_value {f : Addr} {fd : FuncData} (D_circuit_value : M.Df K mg "circuit_value" s_circuit_value ["gates", "x"] f fd) (T : Txt K mg) {f_gate_value : Addr} {fd_gate_value : FuncData} (G_gate_value : M.Pr P w K mg base 2 "gate_value" ["gate", "x", "before"] (sp_gate_value K) f_gate_value fd_gate_value) : M.Pr P w K mg base 3 "circuit_value" ["gates", "x"] (sp_circuit_value K) f fd := by
  refine M.Pr.of D_circuit_value sc_circuit_value (fun vs H Q E h => ?_) (fun cdv A outer s H vs Q E hr h => ?_)
  · obtain ⟨p, b, rows, n, x, c, rfl, _⟩ := h
    rfl
  · obtain ⟨p, b, rows, n, x, c, rfl, hR, h4, h1, h64, hb, lx, nx, hc, q⟩ := h
    refine ⟨_, (pss_cons (ps_set (i := 2) sc_circuit_value.nd rfl (Or.inl rfl) (pe_lst pa_nil))
            (pss_cons (ps_for PassesOwn.never rfl (pi_list (pv 0)) (pg_name (i := 3) sc_circuit_value.nd rfl (Or.inl rfl))
            (pss_one (ps_expr (pe_bm PySem.F.plainAttrs_list PySem.F.slot_list_append PySem.F.type_list_append mt_append (pv 2) (pa_cons (M.pe_def G_gate_value (hr.mono (by omega)) (pa_cons (pv 3) (pa_cons (pv 1) (pa_cons (pv 2) pa_nil)))) pa_nil)))))
            (pss_one (ps_ret (pe_ix ix_list (pv 2) (pe_un un_neg pe_int) (fun _ _ => rfl)))))), ?_⟩
    obtain ⟨as, hl, len, hrow⟩ := hR.ex
    refine M.seq_all fun R0 hR0 => ?_
    walk_at "rd"
    intro d hd
    rw [hR0]
    refine M.seq_all fun R hR' => ?_
    refine M.for_list_go (K := K) (a := p) (xs := as.map V.ref) (fun Q h => ⟨_, rfl, h⟩) ((M.same_upd hd).seq hl) (fun i σ H' => (∃ v3, σ = [some (.ref p), some (.ref b), some (.ref d), v3]) ∧ H' = upd H d (.lst (M.ni (Sv41.through (vstep x) (c.take i)))))
      ⟨⟨none, rfl⟩, rfl⟩ (fun i σ H' _ z => by rw [z.2]; exact (M.same_upd hd).seq hl) ?_ ?_
    · rintro i y σ H' hi ⟨⟨v3, rfl⟩, rfl⟩
      obtain ⟨a, ha, rfl⟩ := M.refs_get hi
      have hi' : i < rows.length := by rw [← len]; exact (List.getElem?_eq_some_iff.mp ha).1
      obtain ⟨r, hr⟩ : ∃ r, rows[i]? = some r := ⟨_, List.getElem?_eq_getElem hi'⟩
      obtain ⟨x0, x1, x2, x3, rfl⟩ := len4 (h4 r (List.mem_of_getElem? hr))
      obtain ⟨g, hg, hcg⟩ := cf_get hc i _ hr
      rw [Nat.zero_add] at hg
      have s1 : Same H (upd H d (.lst (M.ni (Sv41.through (vstep x) (c.take i))))) := M.same_upd hd
      have lb : (Sv41.through (vstep x) (c.take i)).length = i := by
        rw [through_len, List.length_take, cf_len hc]
        omega
      walk_at "rd"
      refine ⟨.inl ⟨_, SqL.of upd_same⟩, a, b, d, x0, x1, x2, x3, n, x, _, g, rfl, M.At.mono s1 (hrow i a _ ha hr), M.At.mono s1 hb, M.At.of upd_same, by rw [lb]; exact hg, lx, nx, through_lt _ (vstep_lt x) _, _, upd_same, M.line_lt ?_, ?_⟩
      · rw [M.ni_length, lb]
        omega
      · rw [upd_upd, through_take_succ _ hcg, M.ni_append]
        rfl
    · rintro σ H' ⟨⟨v3, rfl⟩, rfl⟩
      show R _ _
      rw [hR']
      rw [List.length_map, len, ← cf_len hc, List.take_length]
      walk_at "rd"
      refine ⟨_, SqL.of upd_same, _, M.ni_last ?_, ?_⟩
      · intro z
        have := through_len (vstep x) c
        rw [z, cf_len hc] at this
        simp at this
        omega
      · exact q _ (M.same_upd hd)
abbrev s_looked_at : Stmt := top 28
theorem sc_looked_at : FnScope ["n", "count", "rows", "claims", "variable", "start"] ["n", "count", "rows"] (defScope s_looked_at) := ⟨rfl, rfl, rfl, by decide +kernel, rfl, by decide +kernel, by decide +kernel⟩
def sp_looked_at (K : PySem.W.Frag) : Sp := fun vs H Q _ => ∃ (n d : Nat) (a : Addr) (l : List Nat), vs = [.int (n : Int), .int ((d : Int) + 1), .ref a] ∧ M.At K H a l ∧ l.length = 16 * n ∧ n ≤ 12 ∧ d ≤ 15 ∧ ∀ (H' : Hp) (p : Addr), Same H H' → M.Rows K H' p (Sv41.rowsOf n d l) → Q (.ref p) H'
theorem ok_looked_at {f : Addr} {fd : FuncData} (D_looked_at : M.Df K mg "looked_at" s_looked_at ["n", "count", "rows"] f fd) (T : Txt K mg)  : M.Pr P w K mg base 1 "looked_at" ["n", "count", "rows"] (sp_looked_at K) f fd := by
  refine M.Pr.of D_looked_at sc_looked_at (fun vs H Q E h => ?_) (fun cdv A outer s H vs Q E hr h => ?_)
  · obtain ⟨n, d, a, l, rfl, _⟩ := h
    rfl
  · obtain ⟨n, d, a, l, rfl, hS, hl, hn, hd15, q⟩ := h
    refine ⟨_, (pss_cons (ps_set (i := 3) sc_looked_at.nd rfl (Or.inl rfl) (pe_lst pa_nil))
            (pss_cons (ps_for PassesOwn.never rfl (pi_range1 rfl T.range (pa_cons (pv 0) pa_nil)) (pg_name (i := 4) sc_looked_at.nd rfl (Or.inl rfl))
            (pss_cons (ps_set (i := 5) sc_looked_at.nd rfl (Or.inl rfl) (pe_op op_mul (M.pe_gi T.ROW_NUMBERS) (pv 4)))
            (pss_one (ps_expr (pe_bm PySem.F.plainAttrs_list PySem.F.slot_list_append PySem.F.type_list_append mt_append (pv 3) (pa_cons (pe_slice sl_list (pv 2) (po_some (pv 5)) (po_some (pe_op op_add (pv 5) (pv 1)))) pa_nil))))))
            (pss_one (ps_ret (pv 3))))), ?_⟩
    refine M.seq_all fun R0 hR0 => ?_
    walk_at "rd"
    intro p hp
    rw [hR0]
    refine M.seq_all fun R hR => ?_
    have s0 : Same H (upd H p (.lst [])) := M.same_upd hp
    refine M.for_range_go (n := n) (H1 := upd H p (.lst [])) (fun Q h => ⟨_, rfl, h⟩) (by omega) (fun i σ H' => (∃ (v2 v3 : Option V), σ = [some (.int (n : Int)), some (.int ((d : Int) + 1)), some (.ref a), some (.ref p), v2, v3]) ∧ ∃ as : List Addr, Same H H' ∧ H' p = some (.lst (as.map V.ref)) ∧ as.length = i ∧
      ∀ (j : Nat) (b : Addr), as[j]? = some b → b ≠ p ∧ H' b = some (.lst (M.ni ((l.drop (16 * j)).take (d + 1))))) ⟨⟨none, none, rfl⟩, [], s0, upd_same, rfl, fun j b e => by simp at e⟩ ?_ ?_
    · rintro i σ H' hi ⟨⟨v2, v3, rfl⟩, as, s1, hp', la, hb⟩
      refine M.seq_all fun R1 hR1 => ?_
      walk_at "rd"
      refine ⟨.inl ⟨by decide, by decide⟩, ?_⟩
      rw [hR1]
      walk_at "rd"
      refine ⟨.inl ⟨_, SqL.of hp'⟩, _, M.At.mono s1 hS, fun q hq => ?_⟩
      have e1 : (16 : Int) * (i : Int) = ((16 * i : Nat) : Int) := by omega
      have e2 : (16 : Int) * (i : Int) + ((d : Int) + 1) = ((16 * i + (d + 1) : Nat) : Int) := by omega
      rw [e2, e1, M.cut_to (by omega)]
      have npq : p ≠ q := ne_of_none hp' hq
      refine ⟨_, (by rw [upd_ne npq]; exact hp'), M.line_lt ?_, ?_⟩
      · rw [List.length_map, la]
        omega
      · refine ⟨fun b o e => ?_, as ++ [q], ?_, ?_, fun j b e => ?_⟩
        · have n1 : b ≠ p := ne_of_none e hp
          have e3 := s1 b o e
          rw [upd_ne n1, upd_ne (ne_of_none e3 hq)]
          exact e3
        · rw [upd_same, List.map_append]
          rfl
        · rw [List.length_append, la]
          rfl
        · by_cases hj : j < as.length
          · rw [List.getElem?_append_left hj] at e
            obtain ⟨h1, h2⟩ := hb j b e
            refine ⟨h1, ?_⟩
            rw [upd_ne h1, upd_ne (ne_of_none h2 hq)]
            exact h2
          · have hj' : j < (as ++ [q]).length := (List.getElem?_eq_some_iff.mp e).1
            rw [List.length_append, List.length_singleton] at hj'
            have ej : j = i := by omega
            subst ej
            rw [List.getElem?_append_right (by omega), la, Nat.sub_self] at e
            have eb : q = b := Option.some.inj e
            subst eb
            refine ⟨npq.symm, ?_⟩
            rw [upd_ne npq.symm, upd_same]
    · rintro σ H' ⟨⟨v2, v3, rfl⟩, as, s1, hp', la, hb⟩
      show R _ _
      rw [hR]
      walk_at "rd"
      refine q H' p s1 ⟨as, SqL.of hp', by rw [la, rowsOf_len], fun j b r e1 e2 => ?_⟩
      have hj : j < n := by rw [← la]; exact (List.getElem?_eq_some_iff.mp e1).1
      rw [rowsOf_get hj] at e2
      rw [← Option.some.inj e2]
      exact M.At.of (hb j b e1).2
abbrev s_polynomial_value : Stmt := top 29
theorem sc_polynomial_value : FnScope ["values", "x", "total", "ways", "differences", "step", "place"] ["values", "x"] (defScope s_polynomial_value) := ⟨rfl, rfl, rfl, by decide +kernel, rfl, by decide +kernel, by decide +kernel⟩
def sp_polynomial_value (K : PySem.W.Frag) : Sp := fun vs H Q _ => ∃ (a : Addr) (m : List Nat) (x : Nat), vs = [.ref a, .int (x : Int)] ∧ M.At K H a m ∧ m.length ≤ 16 ∧ Sv41.numbers m = true ∧ x < 65521 ∧ ∀ H', Same H H' → Q (.int ((Sv41.lies m x : Nat) : Int)) H'
theorem zi_at {l : List Int} {i : Nat} {z : Int} (e : z = (i : Int)) (h : i < l.length) : atI (l.map V.int) z = some (V.int (l.getD i 0)) := by
  refine at_of e ?_
  rw [List.getElem?_map, List.getElem?_eq_getElem h, List.getD_eq_getElem?_getD, List.getElem?_eq_getElem h]
  rfl
theorem small_step {i : Nat} {l : List Int} (h : small ((65521 * 2 ^ i : Nat) : Int) l) : small ((65521 * 2 ^ (i + 1) : Nat) : Int) (dif l) := by
  have e : ((65521 * 2 ^ (i + 1) : Nat) : Int) = 2 * ((65521 * 2 ^ i : Nat) : Int) := by
    rw [Nat.pow_succ]
    omega
  rw [e]
  exact small_dif (by omega) h
theorem dif_V (l : List Int) : (List.range (l.length - 1)).map (fun j => V.int (l.getD (j + 1) 0 - l.getD j 0)) = (dif l).map V.int := by
  unfold dif
  rw [List.map_map]
  rfl
theorem ok_polynomial_value {f : Addr} {fd : FuncData} (D_polynomial_value : M.Df K mg "polynomial_value" s_polynomial_value ["values", "x"] f fd) (T : Txt K mg)  : M.Pr P w K mg base 1 "polynomial_value" ["values", "x"] (sp_polynomial_value K) f fd := by
  refine M.Pr.of D_polynomial_value sc_polynomial_value (fun vs H Q E h => ?_) (fun cdv A outer s H vs Q E hr h => ?_)
  · obtain ⟨a, m, x, rfl, _⟩ := h
    rfl
  · obtain ⟨a, m, x, rfl, hS, hl, hm, hx, q⟩ := h
    refine ⟨_, (pss_cons (ps_set (i := 2) sc_polynomial_value.nd rfl (Or.inl rfl) pe_int)
            (pss_cons (ps_set (i := 3) sc_polynomial_value.nd rfl (Or.inl rfl) pe_int)
            (pss_cons (ps_set (i := 4) sc_polynomial_value.nd rfl (Or.inr rfl) (pv 0))
            (pss_cons (ps_for PassesOwn.never rfl (pi_range1 rfl T.range (pa_cons (pe_callB call_len_seq (by rfl) T.len PySem.boot_len (pa_cons (pv 0) pa_nil)) pa_nil)) (pg_name (i := 5) sc_polynomial_value.nd rfl (Or.inl rfl))
            (pss_cons (ps_set (i := 2) sc_polynomial_value.nd rfl (Or.inl rfl) (pe_op op_mod (pe_op op_add (pv 2) (pe_op op_mul (pv 3) (pe_ix ix_list (pv 4) pe_int (fun _ _ => rfl)))) (M.pe_gi T.PRIME)))
            (pss_cons (ps_set (i := 3) sc_polynomial_value.nd rfl (Or.inl rfl) (pe_op op_fdiv (pe_op op_mul (pv 3) (pe_op op_sub (pv 1) (pv 5))) (pe_op op_add (pv 5) pe_int)))
            (pss_one (ps_set (i := 4) sc_polynomial_value.nd rfl (Or.inr rfl) (pe_lc (own := [("place", 6)]) rfl sc_polynomial_value.nd (pi_range2 rfl T.range (pa_cons pe_int (pa_cons (pe_callB call_len_seq (by rfl) T.len PySem.boot_len (pa_cons (pv 4) pa_nil)) pa_nil))) (blkOk_by (N := ["values", "x", "total", "ways", "differences", "step", "place"]) (sc := defScope s_polynomial_value) (by decide +kernel)) (fun _ _ _ _ _ => pg_name (i := 6) sc_polynomial_value.nd rfl (Or.inl rfl)) (fun _ _ _ _ _ => pts_nil) (fun _ _ _ _ _ => (pe_op op_sub (pe_ix (show IxR _ (rIxL K) from ix_list) (pv 4) (pv 6) (fun _ _ => rfl)) (pe_ix (show IxR _ (rIxL K) from ix_list) (pv 4) (pe_op op_sub (pv 6) pe_int) (fun _ _ => rfl))))))))))
            (pss_one (ps_ret (pv 2))))))), ?_⟩
    refine M.seq_all fun R0 hR0 => ?_
    walk_at "rd"
    rw [hR0]
    refine M.seq_all fun R1 hR1 => ?_
    walk_at "rd"
    rw [hR1]
    refine M.seq_all fun R2 hR2 => ?_
    walk_at "rd"
    rw [hR2]
    refine M.seq_all fun R hR => ?_
    obtain ⟨Pv, hPv⟩ : ∃ Pv : Nat → L2.St → Hp → Prop, Pv = fun i σ H' => ∃ (t : Int) (d : Addr) (ds : List Int) (v5 v6 : Option V), σ = [some (.ref a), some (.int (x : Int)), some (.int t), some (.int ((ch x i : Nat) : Int)), some (.ref d), v5, v6] ∧ Same H H' ∧ SqL K H' d (ds.map V.int) ∧
      ds.length = m.length - i ∧ small ((65521 * 2 ^ i : Nat) : Int) ds ∧ 0 ≤ t ∧ t < 65521 ∧ (t + Gn (m.length - i) ds i x) % 65521 = Gn m.length (zi m) 0 x % 65521 := ⟨_, rfl⟩
    refine M.for_range_go (n := m.length) (H1 := H) (fun Q h => ?_) (by omega) Pv ?_ ?_ ?_
    · walk_at "rd"
      refine ⟨_, .inl hS, ?_⟩
      rw [M.ni_length]
      exact h
    · rw [hPv]
      refine ⟨0, a, zi m, none, none, ?_, M.same_refl, ?_, zi_len m, small_zi (numbers_mem hm), by decide, by decide, ?_⟩
      · rw [ch_zero]
        rfl
      · have e : (zi m).map V.int = M.ni m := M.ni_ints m
        rw [e]
        exact hS
      · rw [Int.zero_add, Nat.sub_zero]
    · intro i σ H' hi hp
      rw [hPv] at hp
      obtain ⟨t, d, ds, v5, v6, rfl, s1, hd, ld, hsm, t0, t1, hG⟩ := hp
      have b0 := hsm 0
      have b1 : 65521 * 2 ^ i ≤ 65521 * 2 ^ 16 := Nat.mul_le_mul_left _ (Nat.pow_le_pow_right (by decide) (by omega))
      have b2 : 65521 * 2 ^ 16 = 4293984256 := by decide
      refine M.seq_all fun R1 hR1 => ?_
      walk_at "rd"
      refine ⟨_, hd, _, zi_at (i := 0) rfl (by omega), _, rfl, .inr ⟨by omega, by omega⟩, by decide, ?_⟩
      rw [hR1]
      refine M.seq_all fun R2 hR2 => ?_
      walk_at "rd"
      refine ⟨.inr ⟨by omega, by omega⟩, ⟨by omega, by omega⟩, ?_⟩
      rw [ch_div, hR2]
      walk_at "rd"
      refine M.lc_range2_V (lo := 1) (hi := ds.length) (fun j => V.int (ds.getD (j + 1) 0 - ds.getD j 0)) (fun Q h => ?_) (by omega) (by omega) ?_ ?_
      · walk_at "rd"
        refine ⟨_, .inl hd, ?_⟩
        rw [List.length_map]
        exact h
      · intro Qy Qn j H2 hj s2 k
        walk_at "rd"
        refine ⟨_, s2.seq hd, _, zi_at (i := j + 1) (by omega) (by omega), _, s2.seq hd, _, zi_at (i := j) (by omega) (by omega), _, rfl, _, rfl, k H2 M.same_refl⟩
      · intro D H2 s2 hD
        rw [dif_V] at hD
        show Pv _ _ _
        rw [hPv]
        refine ⟨_, D, dif ds, _, _, rfl, s1.trans s2, SqL.of hD, by rw [dif_len]; omega, small_step hsm, Int.emod_nonneg _ (by decide), Int.emod_lt_of_pos _ (by decide), ?_⟩
        rw [← hG]
        have e : m.length - i = (m.length - (i + 1)) + 1 := by omega
        rw [e]
        show _ = (t + ((ch x i : Int) * ds.getD 0 0 + Gn (m.length - (i + 1)) (dif ds) (i + 1) x)) % 65521
        omega
    · intro σ H' hp
      rw [hPv] at hp
      obtain ⟨t, d, ds, v5, v6, rfl, s1, hd, ld, hsm, t0, t1, hG⟩ := hp
      show R _ _
      rw [hR]
      walk_at "rd"
      have e := q H' s1
      rw [lies_newton hl x, ← hG, Nat.sub_self] at e
      have e2 : (t + Gn 0 ds m.length x) % 65521 = t := by
        show (t + 0) % 65521 = t
        omega
      rw [e2] at e
      exact e
abbrev s_claims_hold : Stmt := top 30
theorem sc_claims_hold : FnScope ["total", "claims", "r", "value", "due", "variable", "claim"] ["total", "claims", "r", "value"] (defScope s_claims_hold) := ⟨rfl, rfl, rfl, by decide +kernel, rfl, by decide +kernel, by decide +kernel⟩
def sp_claims_hold (K : PySem.W.Frag) : Sp := fun vs H Q _ => ∃ (t : Nat) (p b : Addr) (ms : List (List Nat)) (r all : List Nat) (c : Sv41.Circuit), vs = [.int (t : Int), .ref p, .ref b, .int ((Sv41.value c all : Nat) : Int)] ∧ M.Rows K H p ms ∧ (∀ m ∈ ms, m.length ≤ 16 ∧ Sv41.numbers m = true) ∧ ms.length ≤ 12 ∧ M.At K H b r ∧
  r.length = ms.length ∧ Sv41.numbers r = true ∧ ∀ H', Same H H' → Q (.bl (Sv41.accepts c t ms r all)) H'
theorem ok_claims_hold {f : Addr} {fd : FuncData} (D_claims_hold : M.Df K mg "claims_hold" s_claims_hold ["total", "claims", "r", "value"] f fd) (T : Txt K mg) {f_polynomial_value : Addr} {fd_polynomial_value : FuncData} (G_polynomial_value : M.Pr P w K mg base 1 "polynomial_value" ["values", "x"] (sp_polynomial_value K) f_polynomial_value fd_polynomial_value) : M.Pr P w K mg base 2 "claims_hold" ["total", "claims", "r", "value"] (sp_claims_hold K) f fd := by
  refine M.Pr.of D_claims_hold sc_claims_hold (fun vs H Q E h => ?_) (fun cdv A outer s H vs Q E hr h => ?_)
  · obtain ⟨t, p, b, ms, r, all, c, rfl, _⟩ := h
    rfl
  · obtain ⟨t, p, b, ms, r, all, c, rfl, hR, hms, lms, hb, lr, nr, q⟩ := h
    refine ⟨_, (pss_cons (ps_set (i := 4) sc_claims_hold.nd rfl (Or.inl rfl) (pv 0))
            (pss_cons (ps_for PassesOwn.never rfl (pi_range1 rfl T.range (pa_cons (pe_callB call_len_seq (by rfl) T.len PySem.boot_len (pa_cons (pv 1) pa_nil)) pa_nil)) (pg_name (i := 5) sc_claims_hold.nd rfl (Or.inl rfl))
            (pss_cons (ps_set (i := 6) sc_claims_hold.nd rfl (Or.inl rfl) (pe_ix ix_list (pv 1) (pv 5) (fun _ _ => rfl)))
            (pss_cons (ps_if (pt_cmpR op_ne (pe_op op_mod (pe_op op_add (M.pe_def G_polynomial_value (hr.mono (by omega)) (pa_cons (pv 6) (pa_cons pe_int pa_nil))) (M.pe_def G_polynomial_value (hr.mono (by omega)) (pa_cons (pv 6) (pa_cons pe_int pa_nil)))) (M.pe_gi T.PRIME)) (pv 4) (nomark _))
            (pss_one (ps_ret pe_bl))
            pss_nil)
            (pss_one (ps_set (i := 4) sc_claims_hold.nd rfl (Or.inl rfl) (M.pe_def G_polynomial_value (hr.mono (by omega)) (pa_cons (pv 6) (pa_cons (pe_ix ix_list (pv 2) (pv 5) (fun _ _ => rfl)) pa_nil))))))))
            (pss_one (ps_ret (pe_cmpR op_eq (pv 4) (pv 3) (nomark _)))))), ?_⟩
    obtain ⟨as, hl, len, hrow⟩ := hR.ex
    refine M.seq_all fun R0 hR0 => ?_
    walk_at "rd"
    rw [hR0]
    refine M.seq_all fun R hR' => ?_
    obtain ⟨Pv, hPv⟩ : ∃ Pv : Nat → L2.St → Hp → Prop, Pv = fun i σ H' => ∃ (d : Nat) (v5 v6 : Option V), σ = [some (.int (t : Int)), some (.ref p), some (.ref b), some (.int ((Sv41.value c all : Nat) : Int)), some (.int (d : Int)), v5, v6] ∧ Same H H' ∧ Sv41.accepts c t ms r all = Sv41.accepts c d (ms.drop i) (r.drop i) all := ⟨_, rfl⟩
    refine M.for_range_go (n := ms.length) (H1 := H) (fun Q h => ?_) (by omega) Pv ?_ ?_ ?_
    · walk_at "rd"
      refine ⟨_, .inl hl, ?_⟩
      rw [List.length_map, len]
      exact h
    · rw [hPv]
      exact ⟨t, none, none, rfl, M.same_refl, rfl⟩
    · intro i σ H' hi hp
      rw [hPv] at hp
      obtain ⟨d, v5, v6, rfl, s1, hacc⟩ := hp
      obtain ⟨m, hm⟩ : ∃ m, ms[i]? = some m := ⟨_, List.getElem?_eq_getElem hi⟩
      obtain ⟨a, ha⟩ : ∃ a, as[i]? = some a := ⟨_, List.getElem?_eq_getElem (by rw [len]; exact hi)⟩
      have hA := hrow i a m ha hm
      have hm2 := hms m (List.mem_of_getElem? hm)
      rw [accepts_step hm] at hacc
      refine M.seq_all fun R1 hR1 => ?_
      walk_at "rd"
      refine ⟨_, s1.seq hl, _, M.refs_at ha, ?_⟩
      rw [hR1]
      refine M.seq_all fun R2 hR2 => ?_
      walk_at "rd"
      refine ⟨a, m, 0, rfl, M.At.mono s1 hA, hm2.1, hm2.2, by decide, fun H3 s3 => ⟨a, m, 1, rfl, M.At.mono (s1.trans s3) hA, hm2.1, hm2.2, by decide, fun H4 s4 => ?_⟩⟩
      refine ⟨_, rfl, _, rfl, by decide, fun hne => ?_, fun heq => ?_⟩
      · have e := q H4 ((s1.trans s3).trans s4)
        have z : (Sv41.add (Sv41.lies m 0) (Sv41.lies m 1) == d) = false := by
          rw [beq_eq_false_iff_ne]
          intro z
          rw [← add_int, z] at hne
          exact hne rfl
        rw [hacc, z, Bool.false_and] at e
        exact e
      · have z : Sv41.add (Sv41.lies m 0) (Sv41.lies m 1) = d := by
          rw [← add_int] at heq
          simp only [Bool.not_eq_false', decide_eq_true_eq] at heq
          omega
        rw [hR2]
        walk_at "rd"
        have hb4 := M.At.mono ((s1.trans s3).trans s4) hb
        refine ⟨_, hb4, _, M.ni_at rfl (by omega), a, m, _, rfl, M.At.mono ((s1.trans s3).trans s4) hA, hm2.1, hm2.2, numbers_get nr _, fun H5 s5 => ?_⟩
        rw [hPv]
        refine ⟨_, _, _, rfl, ((s1.trans s3).trans s4).trans s5, ?_⟩
        rw [hacc, z, beq_self_eq_true, Bool.true_and]
    · intro σ H' hp
      rw [hPv] at hp
      obtain ⟨d, v5, v6, rfl, s1, hacc⟩ := hp
      show R _ _
      rw [hR']
      rw [accepts_end (Nat.le_refl _)] at hacc
      walk_at "rd"
      have e := q H' s1
      rw [hacc] at e
      have z : (d == Sv41.value c all) = decide ((d : Int) = ((Sv41.value c all : Nat) : Int)) := by
        by_cases w : d = Sv41.value c all
        · rw [w, beq_self_eq_true, decide_eq_true rfl]
        · rw [beq_eq_false_iff_ne.mpr w, decide_eq_false (fun y => w (by omega))]
      rw [z] at e
      exact e
abbrev s_circuit_arguments_hold : Stmt := top 31
theorem sc_circuit_arguments_hold : FnScope ["n", "gates"] ["n", "gates"] (defScope s_circuit_arguments_hold) := ⟨rfl, rfl, rfl, by decide +kernel, rfl, by decide +kernel, by decide +kernel⟩
def sp_circuit_arguments_hold (K : PySem.W.Frag) : Sp := fun vs H Q _ => ∃ (n : Int) (p : Addr) (rows : List (List Nat)), vs = [.int n, .ref p] ∧ M.Rows K H p rows ∧ Q (.bl (decide (1 ≤ (rows.length : Int) ∧ (rows.length : Int) ≤ 64 ∧ 1 ≤ n ∧ n ≤ 12))) H
theorem ok_circuit_arguments_hold {f : Addr} {fd : FuncData} (D_circuit_arguments_hold : M.Df K mg "circuit_arguments_hold" s_circuit_arguments_hold ["n", "gates"] f fd) (T : Txt K mg)  : M.Pr P w K mg base 1 "circuit_arguments_hold" ["n", "gates"] (sp_circuit_arguments_hold K) f fd := by
  refine M.Pr.of D_circuit_arguments_hold sc_circuit_arguments_hold (fun vs H Q E h => ?_) (fun cdv A outer s H vs Q E hr h => ?_)
  · obtain ⟨n, p, rows, rfl, _⟩ := h
    rfl
  · obtain ⟨n, p, rows, rfl, hR, q⟩ := h
    refine ⟨_, (pss_one (ps_ret (pe_and (pe_chain op_le op_le pe_int (pv 0) (M.pe_gi T.MOST_VARIABLES)) (pe_one (pe_chain op_le op_le pe_int (pe_callB call_len_seq (by rfl) T.len PySem.boot_len (pa_cons (pv 1) pa_nil)) (M.pe_gi T.MOST_GATES)))))), ?_⟩
    have ev : ∀ b : Bool, b = decide (1 ≤ (rows.length : Int) ∧ (rows.length : Int) ≤ 64 ∧ 1 ≤ n ∧ n ≤ 12) → Q (.bl b) H := fun b e => by
      rw [e]
      exact q
    obtain ⟨as, hl, len, _⟩ := hR.ex
    walk_at "rd"
    refine ⟨fun h1 => ⟨fun h2 => ⟨_, .inl hl, fun h3 => ev _ ?_, fun h3 => ev _ ?_⟩, fun h2 => ev _ ?_⟩, fun h1 => ev _ ?_⟩
    · rw [List.length_map, len] at h3 ⊢
      rw [decide_eq_decide]
      omega
    · rw [List.length_map, len] at h3
      exact (decide_eq_false (by omega)).symm
    · exact (decide_eq_false (by omega)).symm
    · exact (decide_eq_false (by omega)).symm
abbrev s_sc_check : Stmt := top 32
theorem sc_sc_check : FnScope ["n", "total", "code", "rows", "r", "gates", "claims", "claim"] ["n", "total", "code", "rows", "r"] (defScope s_sc_check) := ⟨rfl, rfl, rfl, by decide +kernel, rfl, by decide +kernel, by decide +kernel⟩
def sp_sc_check (K : PySem.W.Frag) : Sp := fun vs H Q _ => ∃ (n t : Int) (a b d : Addr) (code rows r : List Nat) (g : Nat), vs = [.int n, .int t, .ref a, .ref b, .ref d] ∧ M.At K H a code ∧ M.At K H b rows ∧ M.At K H d r ∧ code.length = 4 * g ∧ g ≤ 64 ∧ (1 ≤ n → n ≤ 12 → rows.length = 16 * n.toNat ∧ r.length = n.toNat) ∧
  ∀ (H' : Hp) (p : Addr), H' p = some (.lst [.int (Sv41.does (.check code (g : Int) n t rows r)).v]) → Q (.ref p) H'
theorem all_numbers_take {ms : List (List Nat)} {i : Nat} {m : List Nat} (h : ms[i]? = some m) (hm : Sv41.numbers m = true) (hp : (ms.take i).all Sv41.numbers = true) : (ms.take (i + 1)).all Sv41.numbers = true := by
  rw [List.take_succ, h, List.all_append, hp]
  show (true && ([m].all Sv41.numbers)) = true
  rw [List.all_cons, List.all_nil, hm]
  rfl
theorem all_numbers_not {ms : List (List Nat)} {i : Nat} {m : List Nat} (h : ms[i]? = some m) (hm : Sv41.numbers m = false) : ¬ ms.all Sv41.numbers = true := by
  intro z
  have := List.all_eq_true.mp z m (List.mem_of_getElem? h)
  rw [hm] at this
  cases this
theorem ok_sc_check {f : Addr} {fd : FuncData} (D_sc_check : M.Df K mg "sc_check" s_sc_check ["n", "total", "code", "rows", "r"] f fd) (T : Txt K mg) {f_claims_hold : Addr} {fd_claims_hold : FuncData} (G_claims_hold : M.Pr P w K mg base 2 "claims_hold" ["total", "claims", "r", "value"] (sp_claims_hold K) f_claims_hold fd_claims_hold) {f_circuit_value : Addr} {fd_circuit_value : FuncData} (G_circuit_value : M.Pr P w K mg base 3 "circuit_value" ["gates", "x"] (sp_circuit_value K) f_circuit_value fd_circuit_value) {f_all_numbers : Addr} {fd_all_numbers : FuncData} (G_all_numbers : M.Pr P w K mg base 1 "all_numbers" ["values"] (sp_all_numbers K) f_all_numbers fd_all_numbers) {f_looked_at : Addr} {fd_looked_at : FuncData} (G_looked_at : M.Pr P w K mg base 1 "looked_at" ["n", "count", "rows"] (sp_looked_at K) f_looked_at fd_looked_at) {f_greatest_last_degree : Addr} {fd_greatest_last_degree : FuncData} (G_greatest_last_degree : M.Pr P w K mg base 3 "greatest_last_degree" ["n", "gates"] (sp_greatest_last_degree K) f_greatest_last_degree fd_greatest_last_degree) {f_is_circuit : Addr} {fd_is_circuit : FuncData} (G_is_circuit : M.Pr P w K mg base 4 "is_circuit" ["n", "gates"] (sp_is_circuit K) f_is_circuit fd_is_circuit) {f_circuit_arguments_hold : Addr} {fd_circuit_arguments_hold : FuncData} (G_circuit_arguments_hold : M.Pr P w K mg base 1 "circuit_arguments_hold" ["n", "gates"] (sp_circuit_arguments_hold K) f_circuit_arguments_hold fd_circuit_arguments_hold) {f_gates_of : Addr} {fd_gates_of : FuncData} (G_gates_of : M.Pr P w K mg base 1 "gates_of" ["code"] (sp_gates_of K) f_gates_of fd_gates_of) : M.Pr P w K mg base 5 "sc_check" ["n", "total", "code", "rows", "r"] (sp_sc_check K) f fd := by
  refine M.Pr.of D_sc_check sc_sc_check (fun vs H Q E h => ?_) (fun cdv A outer s H vs Q E hr h => ?_)
  · obtain ⟨n, t, a, b, d, code, rows, r, g, rfl, _⟩ := h
    rfl
  · obtain ⟨n, t, a, b, d, code, rows, r, g, rfl, ha, hb, hd, hl, hg, hx, q⟩ := h
    refine ⟨_, (pss_cons (ps_set (i := 5) sc_sc_check.nd rfl (Or.inl rfl) (M.pe_def G_gates_of (hr.mono (by omega)) (pa_cons (pv 2) pa_nil)))
            (pss_cons (ps_if (pt_not (PW.pt (pw_and (pt_val (M.pe_def G_circuit_arguments_hold (hr.mono (by omega)) (pa_cons (pv 0) (pa_cons (pv 5) pa_nil)))) (pw_and1 (pt_chain op_le op_lt pe_int (pv 1) (M.pe_gi T.PRIME))))))
            (pss_one (ps_ret (pe_lst (pa_cons (M.pe_gi T.ARGUMENTS_REFUSED) pa_nil))))
            pss_nil)
            (pss_cons (ps_if (pt_not (PW.pt (pw_and (pt_val (M.pe_def G_is_circuit (hr.mono (by omega)) (pa_cons (pv 0) (pa_cons (pv 5) pa_nil)))) (pw_and1 (pt_val (M.pe_def G_all_numbers (hr.mono (by omega)) (pa_cons (pv 4) pa_nil)))))))
            (pss_one (ps_ret (pe_lst (pa_cons (M.pe_gi T.CONTENT_REFUSED) pa_nil))))
            pss_nil)
            (pss_cons (ps_set (i := 6) sc_sc_check.nd rfl (Or.inl rfl) (M.pe_def G_looked_at (hr.mono (by omega)) (pa_cons (pv 0) (pa_cons (pe_op op_add (M.pe_def G_greatest_last_degree (hr.mono (by omega)) (pa_cons (pv 0) (pa_cons (pv 5) pa_nil))) pe_int) (pa_cons (pv 3) pa_nil)))))
            (pss_cons (ps_for PassesOwn.never rfl (pi_list (pv 6)) (pg_name (i := 7) sc_sc_check.nd rfl (Or.inl rfl))
            (pss_one (ps_if (pt_not (pt_val (M.pe_def G_all_numbers (hr.mono (by omega)) (pa_cons (pv 7) pa_nil))))
            (pss_one (ps_ret (pe_lst (pa_cons (M.pe_gi T.CONTENT_REFUSED) pa_nil))))
            pss_nil)))
            (pss_one (ps_ret (pe_lst (pa_cons (pe_ifExp (pt_val (M.pe_def G_claims_hold (hr.mono (by omega)) (pa_cons (pv 1) (pa_cons (pv 6) (pa_cons (pv 4) (pa_cons (M.pe_def G_circuit_value (hr.mono (by omega)) (pa_cons (pv 5) (pa_cons (pv 4) pa_nil))) pa_nil)))))) pe_int pe_int) pa_nil))))))))), ?_⟩
    rw [check_v] at q
    refine M.seq_all fun R1 hR1 => ?_
    walk_at "rd"
    refine ⟨a, code, g, rfl, ha, hl, hg, fun H1 p s1 hR => ?_⟩
    rw [hR1]
    refine M.seq_all fun R2 hR2 => ?_
    have out : ¬ ((1 ≤ (g : Int) ∧ (g : Int) ≤ 64 ∧ 1 ≤ n ∧ n ≤ 12) ∧ 0 ≤ t ∧ t < 65521) → ∀ (H' : Hp) (p : Addr), H' p = some (.lst [.int (-2)]) → Q (.ref p) H' := fun z => by
      rw [if_neg z] at q
      exact q
    walk_at "rd"
    refine ⟨n, p, _, rfl, hR, _, rfl, ?_⟩
    rw [chunks_len]
    by_cases hs0 : 1 ≤ (g : Int) ∧ (g : Int) ≤ 64 ∧ 1 ≤ n ∧ n ≤ 12
    · rw [decide_eq_true hs0]
      walk_at "rd"
      refine ⟨fun h1 => ⟨fun h2 => ⟨M.line_le (by decide), fun p _ => out (by omega) _ p upd_same⟩, fun h2 => ?_⟩, fun h1 => ⟨M.line_le (by decide), fun p _ => out (by omega) _ p upd_same⟩⟩
      have hs : (1 ≤ (g : Int) ∧ (g : Int) ≤ 64 ∧ 1 ≤ n ∧ n ≤ 12) ∧ 0 ≤ t ∧ t < 65521 := by omega
      rw [if_pos hs] at q
      rw [hR2]
      obtain ⟨k, rfl⟩ := Int.eq_ofNat_of_zero_le (show 0 ≤ n by omega)
      obtain ⟨tt, rfl⟩ := Int.eq_ofNat_of_zero_le (show 0 ≤ t by omega)
      obtain ⟨lrows, lr⟩ := hx hs.1.2.2.1 hs.1.2.2.2
      have ek : ((k : Int)).toNat = k := rfl
      have et : ((tt : Int)).toNat = tt := rfl
      have eg : ((g : Int)).toNat = g := rfl
      rw [ek] at lrows lr q
      rw [eg, et] at q
      have h4 := chunks_four hl
      refine M.seq_all fun R3 hR3 => ?_
      walk_at "rd"
      refine ⟨k, p, _, rfl, by omega, hR, h4, by rw [chunks_len]; omega, by rw [chunks_len]; omega, fun H2 s2 => ⟨_, rfl, ?_⟩⟩
      cases e : circ k (chunks g code) with
      | none =>
        rw [e] at q
        walk_at "rd"
        exact ⟨M.line_le (by decide), fun p _ => q _ p upd_same⟩
      | some c =>
        rw [e] at q
        have q0 : ∀ (H' : Hp) (p : Addr), H' p = some (.lst [.int (if (Sv41.rowsOf k (Sv41.each k c) rows).all Sv41.numbers = true ∧ Sv41.numbers r = true then (if Sv41.accepts c tt (Sv41.rowsOf k (Sv41.each k c) rows) r r = true then 1 else 0) else -3)]) → Q (.ref p) H' := q
        walk_at "rd"
        have s12 := s1.trans s2
        refine ⟨d, r, rfl, M.At.mono s12 hd, _, rfl, fun h => ?_, fun h => ?_⟩
        · rw [if_neg (by rintro ⟨_, z⟩; rw [h] at z; cases z)] at q0
          exact ⟨M.line_le (by decide), fun p _ => q0 _ p upd_same⟩
        · have nr : Sv41.numbers r = true := by simpa using h
          rw [hR3]
          have hc := circ_cf e
          have hd15 := each_le (circ_ok e)
          refine M.seq_all fun R4 hR4 => ?_
          walk_at "rd"
          refine ⟨k, p, _, c, rfl, by omega, by omega, hR.mono s2, h4, by rw [chunks_len]; omega, by rw [chunks_len]; omega, hc, fun H3 s3 => ?_⟩
          have s13 := s12.trans s3
          refine ⟨_, rfl, k, Sv41.each k c, b, rows, rfl, M.At.mono s13 hb, lrows, by omega, hd15, fun H4 w s4 hW => ?_⟩
          rw [hR4]
          refine M.seq_all fun R5 hR5 => ?_
          have hrow := rowsOf_row lrows hd15
          have lw := rowsOf_len k (Sv41.each k c) rows
          generalize Sv41.rowsOf k (Sv41.each k c) rows = ms at *
          have s14 := s13.trans s4
          obtain ⟨as, hl', len, hrw⟩ := hW.ex
          refine M.for_list_go (K := K) (a := w) (xs := as.map V.ref) (fun Q h => ⟨_, rfl, h⟩) hl' (fun i σ H' => (∃ v8, σ = [some (.int (k : Int)), some (.int (tt : Int)), some (.ref a), some (.ref b), some (.ref d), some (.ref p), some (.ref w), v8]) ∧ H' = H4 ∧ (ms.take i).all Sv41.numbers = true)
            ⟨⟨none, rfl⟩, rfl, rfl⟩ (fun i σ H' _ z => by rw [z.2.1]; exact hl') ?_ ?_
          · rintro i y σ H' hi ⟨⟨v8, rfl⟩, rfl, hp⟩
            obtain ⟨u, hu, rfl⟩ := M.refs_get hi
            have hi' : i < ms.length := by rw [← len]; exact (List.getElem?_eq_some_iff.mp hu).1
            obtain ⟨m, hm⟩ : ∃ m, ms[i]? = some m := ⟨_, List.getElem?_eq_getElem hi'⟩
            walk_at "rd"
            refine ⟨u, m, rfl, hrw i u m hu hm, _, rfl, fun hn => ?_, fun hn => ?_⟩
            · rw [if_neg (by rintro ⟨z, _⟩; exact all_numbers_not hm hn z)] at q0
              exact ⟨M.line_le (by decide), fun p _ => q0 _ p upd_same⟩
            · exact ⟨rfl, all_numbers_take hm (by simpa using hn) hp⟩
          · rintro σ H' ⟨⟨v8, rfl⟩, rfl, hp⟩
            rw [List.length_map, len, List.take_length] at hp
            rw [if_pos ⟨hp, nr⟩] at q0
            show R5 _ _
            rw [hR5]
            walk_at "rd"
            refine ⟨p, d, _, k, r, c, rfl, hR.mono ((s2.trans s3).trans s4), h4, by rw [chunks_len]; omega, by rw [chunks_len]; omega, M.At.mono s14 hd, lr, nr, hc, fun H5 s5 => ?_⟩
            refine ⟨tt, w, d, ms, r, r, c, rfl, hW.mono s5, fun m hm => ⟨by rw [hrow m hm]; omega, List.all_eq_true.mp hp m hm⟩, by omega, M.At.mono (s14.trans s5) hd, by omega, nr, fun H6 s6 => ⟨_, rfl, fun hy => ?_, fun hy => ?_⟩⟩
            · rw [if_pos hy] at q0
              exact ⟨M.line_le (by decide), fun p _ => q0 _ p upd_same⟩
            · rw [if_neg (by rw [hy]; decide)] at q0
              exact ⟨M.line_le (by decide), fun p _ => q0 _ p upd_same⟩
    · rw [decide_eq_false hs0]
      walk_at "rd"
      exact ⟨M.line_le (by decide), fun p _ => out (by omega) _ p upd_same⟩
end
theorem all_mk {P : Program} {w : World} {K : PySem.W.Frag} {h : Heap} {mg : Str → Option Value} {fa : Addr} (X : K.In h) (G : h.Ns mainGlobals mg) (hfa : mg "sc_check" = some (.ref fa))
    {f0 : Addr} {od0 an0 : Option Addr} {sl0 : Array (Option Value)} {oc0 kV0 dc0 pm0 cd0 ct0 : Value}
    (a0 : PySem.W.nsIn K mainGlobals "all_numbers" = some (some (.ref f0))) (l0 : K.lookup f0 = some ⟨oc0, od0, .func (PySem.W.fnOf "all_numbers" "all_numbers" (defArgs s_all_numbers) (defBody s_all_numbers) (defScope s_all_numbers) .none kV0 dc0 pm0 an0 cd0 ct0), sl0⟩) (c0 : PySem.W.codeIn K cd0 "all_numbers" = true) (k0 : PySem.W.keepIn K (.ref f0) = true)
    {f1 : Addr} {od1 an1 : Option Addr} {sl1 : Array (Option Value)} {oc1 kV1 dc1 pm1 cd1 ct1 : Value}
    (a1 : PySem.W.nsIn K mainGlobals "gates_of" = some (some (.ref f1))) (l1 : K.lookup f1 = some ⟨oc1, od1, .func (PySem.W.fnOf "gates_of" "gates_of" (defArgs s_gates_of) (defBody s_gates_of) (defScope s_gates_of) .none kV1 dc1 pm1 an1 cd1 ct1), sl1⟩) (c1 : PySem.W.codeIn K cd1 "gates_of" = true) (k1 : PySem.W.keepIn K (.ref f1) = true)
    {f2 : Addr} {od2 an2 : Option Addr} {sl2 : Array (Option Value)} {oc2 kV2 dc2 pm2 cd2 ct2 : Value}
    (a2 : PySem.W.nsIn K mainGlobals "number_of" = some (some (.ref f2))) (l2 : K.lookup f2 = some ⟨oc2, od2, .func (PySem.W.fnOf "number_of" "number_of" (defArgs s_number_of) (defBody s_number_of) (defScope s_number_of) .none kV2 dc2 pm2 an2 cd2 ct2), sl2⟩) (c2 : PySem.W.codeIn K cd2 "number_of" = true) (k2 : PySem.W.keepIn K (.ref f2) = true)
    {f3 : Addr} {od3 an3 : Option Addr} {sl3 : Array (Option Value)} {oc3 kV3 dc3 pm3 cd3 ct3 : Value}
    (a3 : PySem.W.nsIn K mainGlobals "is_gate" = some (some (.ref f3))) (l3 : K.lookup f3 = some ⟨oc3, od3, .func (PySem.W.fnOf "is_gate" "is_gate" (defArgs s_is_gate) (defBody s_is_gate) (defScope s_is_gate) .none kV3 dc3 pm3 an3 cd3 ct3), sl3⟩) (c3 : PySem.W.codeIn K cd3 "is_gate" = true) (k3 : PySem.W.keepIn K (.ref f3) = true)
    {f4 : Addr} {od4 an4 : Option Addr} {sl4 : Array (Option Value)} {oc4 kV4 dc4 pm4 cd4 ct4 : Value}
    (a4 : PySem.W.nsIn K mainGlobals "gate_degree" = some (some (.ref f4))) (l4 : K.lookup f4 = some ⟨oc4, od4, .func (PySem.W.fnOf "gate_degree" "gate_degree" (defArgs s_gate_degree) (defBody s_gate_degree) (defScope s_gate_degree) .none kV4 dc4 pm4 an4 cd4 ct4), sl4⟩) (c4 : PySem.W.codeIn K cd4 "gate_degree" = true) (k4 : PySem.W.keepIn K (.ref f4) = true)
    {f5 : Addr} {od5 an5 : Option Addr} {sl5 : Array (Option Value)} {oc5 kV5 dc5 pm5 cd5 ct5 : Value}
    (a5 : PySem.W.nsIn K mainGlobals "gate_degrees" = some (some (.ref f5))) (l5 : K.lookup f5 = some ⟨oc5, od5, .func (PySem.W.fnOf "gate_degrees" "gate_degrees" (defArgs s_gate_degrees) (defBody s_gate_degrees) (defScope s_gate_degrees) .none kV5 dc5 pm5 an5 cd5 ct5), sl5⟩) (c5 : PySem.W.codeIn K cd5 "gate_degrees" = true) (k5 : PySem.W.keepIn K (.ref f5) = true)
    {f6 : Addr} {od6 an6 : Option Addr} {sl6 : Array (Option Value)} {oc6 kV6 dc6 pm6 cd6 ct6 : Value}
    (a6 : PySem.W.nsIn K mainGlobals "count_all" = some (some (.ref f6))) (l6 : K.lookup f6 = some ⟨oc6, od6, .func (PySem.W.fnOf "count_all" "count_all" (defArgs s_count_all) (defBody s_count_all) (defScope s_count_all) .none kV6 dc6 pm6 an6 cd6 ct6), sl6⟩) (c6 : PySem.W.codeIn K cd6 "count_all" = true) (k6 : PySem.W.keepIn K (.ref f6) = true)
    {f7 : Addr} {od7 an7 : Option Addr} {sl7 : Array (Option Value)} {oc7 kV7 dc7 pm7 cd7 ct7 : Value}
    (a7 : PySem.W.nsIn K mainGlobals "count_one" = some (some (.ref f7))) (l7 : K.lookup f7 = some ⟨oc7, od7, .func (PySem.W.fnOf "count_one" "count_one" (defArgs s_count_one) (defBody s_count_one) (defScope s_count_one) .none kV7 dc7 pm7 an7 cd7 ct7), sl7⟩) (c7 : PySem.W.codeIn K cd7 "count_one" = true) (k7 : PySem.W.keepIn K (.ref f7) = true)
    {f8 : Addr} {od8 an8 : Option Addr} {sl8 : Array (Option Value)} {oc8 kV8 dc8 pm8 cd8 ct8 : Value}
    (a8 : PySem.W.nsIn K mainGlobals "degrees_hold" = some (some (.ref f8))) (l8 : K.lookup f8 = some ⟨oc8, od8, .func (PySem.W.fnOf "degrees_hold" "degrees_hold" (defArgs s_degrees_hold) (defBody s_degrees_hold) (defScope s_degrees_hold) .none kV8 dc8 pm8 an8 cd8 ct8), sl8⟩) (c8 : PySem.W.codeIn K cd8 "degrees_hold" = true) (k8 : PySem.W.keepIn K (.ref f8) = true)
    {f9 : Addr} {od9 an9 : Option Addr} {sl9 : Array (Option Value)} {oc9 kV9 dc9 pm9 cd9 ct9 : Value}
    (a9 : PySem.W.nsIn K mainGlobals "greatest_last_degree" = some (some (.ref f9))) (l9 : K.lookup f9 = some ⟨oc9, od9, .func (PySem.W.fnOf "greatest_last_degree" "greatest_last_degree" (defArgs s_greatest_last_degree) (defBody s_greatest_last_degree) (defScope s_greatest_last_degree) .none kV9 dc9 pm9 an9 cd9 ct9), sl9⟩) (c9 : PySem.W.codeIn K cd9 "greatest_last_degree" = true) (k9 : PySem.W.keepIn K (.ref f9) = true)
    {f10 : Addr} {od10 an10 : Option Addr} {sl10 : Array (Option Value)} {oc10 kV10 dc10 pm10 cd10 ct10 : Value}
    (a10 : PySem.W.nsIn K mainGlobals "is_circuit" = some (some (.ref f10))) (l10 : K.lookup f10 = some ⟨oc10, od10, .func (PySem.W.fnOf "is_circuit" "is_circuit" (defArgs s_is_circuit) (defBody s_is_circuit) (defScope s_is_circuit) .none kV10 dc10 pm10 an10 cd10 ct10), sl10⟩) (c10 : PySem.W.codeIn K cd10 "is_circuit" = true) (k10 : PySem.W.keepIn K (.ref f10) = true)
    {f11 : Addr} {od11 an11 : Option Addr} {sl11 : Array (Option Value)} {oc11 kV11 dc11 pm11 cd11 ct11 : Value}
    (a11 : PySem.W.nsIn K mainGlobals "gate_value" = some (some (.ref f11))) (l11 : K.lookup f11 = some ⟨oc11, od11, .func (PySem.W.fnOf "gate_value" "gate_value" (defArgs s_gate_value) (defBody s_gate_value) (defScope s_gate_value) .none kV11 dc11 pm11 an11 cd11 ct11), sl11⟩) (c11 : PySem.W.codeIn K cd11 "gate_value" = true) (k11 : PySem.W.keepIn K (.ref f11) = true)
    {f12 : Addr} {od12 an12 : Option Addr} {sl12 : Array (Option Value)} {oc12 kV12 dc12 pm12 cd12 ct12 : Value}
    (a12 : PySem.W.nsIn K mainGlobals "circuit_value" = some (some (.ref f12))) (l12 : K.lookup f12 = some ⟨oc12, od12, .func (PySem.W.fnOf "circuit_value" "circuit_value" (defArgs s_circuit_value) (defBody s_circuit_value) (defScope s_circuit_value) .none kV12 dc12 pm12 an12 cd12 ct12), sl12⟩) (c12 : PySem.W.codeIn K cd12 "circuit_value" = true) (k12 : PySem.W.keepIn K (.ref f12) = true)
    {f13 : Addr} {od13 an13 : Option Addr} {sl13 : Array (Option Value)} {oc13 kV13 dc13 pm13 cd13 ct13 : Value}
    (a13 : PySem.W.nsIn K mainGlobals "looked_at" = some (some (.ref f13))) (l13 : K.lookup f13 = some ⟨oc13, od13, .func (PySem.W.fnOf "looked_at" "looked_at" (defArgs s_looked_at) (defBody s_looked_at) (defScope s_looked_at) .none kV13 dc13 pm13 an13 cd13 ct13), sl13⟩) (c13 : PySem.W.codeIn K cd13 "looked_at" = true) (k13 : PySem.W.keepIn K (.ref f13) = true)
    {f14 : Addr} {od14 an14 : Option Addr} {sl14 : Array (Option Value)} {oc14 kV14 dc14 pm14 cd14 ct14 : Value}
    (a14 : PySem.W.nsIn K mainGlobals "polynomial_value" = some (some (.ref f14))) (l14 : K.lookup f14 = some ⟨oc14, od14, .func (PySem.W.fnOf "polynomial_value" "polynomial_value" (defArgs s_polynomial_value) (defBody s_polynomial_value) (defScope s_polynomial_value) .none kV14 dc14 pm14 an14 cd14 ct14), sl14⟩) (c14 : PySem.W.codeIn K cd14 "polynomial_value" = true) (k14 : PySem.W.keepIn K (.ref f14) = true)
    {f15 : Addr} {od15 an15 : Option Addr} {sl15 : Array (Option Value)} {oc15 kV15 dc15 pm15 cd15 ct15 : Value}
    (a15 : PySem.W.nsIn K mainGlobals "claims_hold" = some (some (.ref f15))) (l15 : K.lookup f15 = some ⟨oc15, od15, .func (PySem.W.fnOf "claims_hold" "claims_hold" (defArgs s_claims_hold) (defBody s_claims_hold) (defScope s_claims_hold) .none kV15 dc15 pm15 an15 cd15 ct15), sl15⟩) (c15 : PySem.W.codeIn K cd15 "claims_hold" = true) (k15 : PySem.W.keepIn K (.ref f15) = true)
    {f16 : Addr} {od16 an16 : Option Addr} {sl16 : Array (Option Value)} {oc16 kV16 dc16 pm16 cd16 ct16 : Value}
    (a16 : PySem.W.nsIn K mainGlobals "circuit_arguments_hold" = some (some (.ref f16))) (l16 : K.lookup f16 = some ⟨oc16, od16, .func (PySem.W.fnOf "circuit_arguments_hold" "circuit_arguments_hold" (defArgs s_circuit_arguments_hold) (defBody s_circuit_arguments_hold) (defScope s_circuit_arguments_hold) .none kV16 dc16 pm16 an16 cd16 ct16), sl16⟩) (c16 : PySem.W.codeIn K cd16 "circuit_arguments_hold" = true) (k16 : PySem.W.keepIn K (.ref f16) = true)
    {f17 : Addr} {od17 an17 : Option Addr} {sl17 : Array (Option Value)} {oc17 kV17 dc17 pm17 cd17 ct17 : Value}
    (a17 : PySem.W.nsIn K mainGlobals "sc_check" = some (some (.ref f17))) (l17 : K.lookup f17 = some ⟨oc17, od17, .func (PySem.W.fnOf "sc_check" "sc_check" (defArgs s_sc_check) (defBody s_sc_check) (defScope s_sc_check) .none kV17 dc17 pm17 an17 cd17 ct17), sl17⟩) (c17 : PySem.W.codeIn K cd17 "sc_check" = true) (k17 : PySem.W.keepIn K (.ref f17) = true)
    {t0 : Tok} (g0 : PySem.W.nsIn K mainGlobals "PRIME" = some (some (.int (65521) t0)))
    {t1 : Tok} (g1 : PySem.W.nsIn K mainGlobals "ARGUMENTS_REFUSED" = some (some (.int (-2) t1)))
    {t2 : Tok} (g2 : PySem.W.nsIn K mainGlobals "CONTENT_REFUSED" = some (some (.int (-3) t2)))
    {t3 : Tok} (g3 : PySem.W.nsIn K mainGlobals "MOST_GATES" = some (some (.int (64) t3)))
    {t4 : Tok} (g4 : PySem.W.nsIn K mainGlobals "MOST_VARIABLES" = some (some (.int (12) t4)))
    {t5 : Tok} (g5 : PySem.W.nsIn K mainGlobals "MOST_DEGREE" = some (some (.int (255) t5)))
    {t6 : Tok} (g6 : PySem.W.nsIn K mainGlobals "MOST_DEGREE_IN_ONE" = some (some (.int (15) t6)))
    {t7 : Tok} (g7 : PySem.W.nsIn K mainGlobals "ROW_NUMBERS" = some (some (.int (16) t7)))
    {t8 : Tok} (g8 : PySem.W.nsIn K mainGlobals "GATE_BYTES" = some (some (.int (4) t8)))
    {t9 : Tok} (g9 : PySem.W.nsIn K mainGlobals "VARIABLE" = some (some (.int (0) t9)))
    {t10 : Tok} (g10 : PySem.W.nsIn K mainGlobals "NUMBER" = some (some (.int (1) t10)))
    {t11 : Tok} (g11 : PySem.W.nsIn K mainGlobals "SUM" = some (some (.int (2) t11)))
    {t12 : Tok} (g12 : PySem.W.nsIn K mainGlobals "DIFFERENCE" = some (some (.int (3) t12)))
    {t13 : Tok} (g13 : PySem.W.nsIn K mainGlobals "PRODUCT" = some (some (.int (4) t13)))
    (b0 : PySem.W.nsIn K mainGlobals "len" = some none)
    (b1 : PySem.W.nsIn K mainGlobals "max" = some none)
    (b2 : PySem.W.nsIn K mainGlobals "range" = some none)
    : ∃ fd : FuncData, (∀ (s : Shared) (us : List Value), us.length = (["n", "total", "code", "rows", "r"] : List Str).length → BindsTo s fd ⟨us, []⟩ ((["n", "total", "code", "rows", "r"] : List Str).zip us)) ∧ ∀ base : Heap, K.In base → base.Ns mainGlobals mg → FnOk P w K mg base CX0 5 fa fd ["n", "total", "code", "rows", "r"] (sp_sc_check K) := by
  have e := hfa.symm.trans (PySem.W.mg_of X G a17)
  cases e
  have T : Txt K mg := ⟨⟨_, PySem.W.mg_of X G g0⟩, ⟨_, PySem.W.mg_of X G g1⟩, ⟨_, PySem.W.mg_of X G g2⟩, ⟨_, PySem.W.mg_of X G g3⟩, ⟨_, PySem.W.mg_of X G g4⟩, ⟨_, PySem.W.mg_of X G g5⟩, ⟨_, PySem.W.mg_of X G g6⟩, ⟨_, PySem.W.mg_of X G g7⟩, ⟨_, PySem.W.mg_of X G g8⟩, ⟨_, PySem.W.mg_of X G g9⟩, ⟨_, PySem.W.mg_of X G g10⟩, ⟨_, PySem.W.mg_of X G g11⟩, ⟨_, PySem.W.mg_of X G g12⟩, ⟨_, PySem.W.mg_of X G g13⟩, PySem.W.mg_none_of X G b0, PySem.W.mg_none_of X G b1, PySem.W.mg_none_of X G b2⟩
  have F0 := fun_mk (st := s_all_numbers) l0 c0 k0
  have D_all_numbers := M.Df.mk F0 (PySem.W.mg_of X G a0) (F0.binds (ps := ["values"]) fun _ _ _ _ _ _ us hl => match us, hl with | [_], _ => rfl)
  have F1 := fun_mk (st := s_gates_of) l1 c1 k1
  have D_gates_of := M.Df.mk F1 (PySem.W.mg_of X G a1) (F1.binds (ps := ["code"]) fun _ _ _ _ _ _ us hl => match us, hl with | [_], _ => rfl)
  have F2 := fun_mk (st := s_number_of) l2 c2 k2
  have D_number_of := M.Df.mk F2 (PySem.W.mg_of X G a2) (F2.binds (ps := ["gate"]) fun _ _ _ _ _ _ us hl => match us, hl with | [_], _ => rfl)
  have F3 := fun_mk (st := s_is_gate) l3 c3 k3
  have D_is_gate := M.Df.mk F3 (PySem.W.mg_of X G a3) (F3.binds (ps := ["n", "gate", "place"]) fun _ _ _ _ _ _ us hl => match us, hl with | [_, _, _], _ => rfl)
  have F4 := fun_mk (st := s_gate_degree) l4 c4 k4
  have D_gate_degree := M.Df.mk F4 (PySem.W.mg_of X G a4) (F4.binds (ps := ["gate", "counts", "before"]) fun _ _ _ _ _ _ us hl => match us, hl with | [_, _, _], _ => rfl)
  have F5 := fun_mk (st := s_gate_degrees) l5 c5 k5
  have D_gate_degrees := M.Df.mk F5 (PySem.W.mg_of X G a5) (F5.binds (ps := ["gates", "counts"]) fun _ _ _ _ _ _ us hl => match us, hl with | [_, _], _ => rfl)
  have F6 := fun_mk (st := s_count_all) l6 c6 k6
  have D_count_all := M.Df.mk F6 (PySem.W.mg_of X G a6) (F6.binds (ps := ["n"]) fun _ _ _ _ _ _ us hl => match us, hl with | [_], _ => rfl)
  have F7 := fun_mk (st := s_count_one) l7 c7 k7
  have D_count_one := M.Df.mk F7 (PySem.W.mg_of X G a7) (F7.binds (ps := ["n", "variable"]) fun _ _ _ _ _ _ us hl => match us, hl with | [_, _], _ => rfl)
  have F8 := fun_mk (st := s_degrees_hold) l8 c8 k8
  have D_degrees_hold := M.Df.mk F8 (PySem.W.mg_of X G a8) (F8.binds (ps := ["n", "gates"]) fun _ _ _ _ _ _ us hl => match us, hl with | [_, _], _ => rfl)
  have F9 := fun_mk (st := s_greatest_last_degree) l9 c9 k9
  have D_greatest_last_degree := M.Df.mk F9 (PySem.W.mg_of X G a9) (F9.binds (ps := ["n", "gates"]) fun _ _ _ _ _ _ us hl => match us, hl with | [_, _], _ => rfl)
  have F10 := fun_mk (st := s_is_circuit) l10 c10 k10
  have D_is_circuit := M.Df.mk F10 (PySem.W.mg_of X G a10) (F10.binds (ps := ["n", "gates"]) fun _ _ _ _ _ _ us hl => match us, hl with | [_, _], _ => rfl)
  have F11 := fun_mk (st := s_gate_value) l11 c11 k11
  have D_gate_value := M.Df.mk F11 (PySem.W.mg_of X G a11) (F11.binds (ps := ["gate", "x", "before"]) fun _ _ _ _ _ _ us hl => match us, hl with | [_, _, _], _ => rfl)
  have F12 := fun_mk (st := s_circuit_value) l12 c12 k12
  have D_circuit_value := M.Df.mk F12 (PySem.W.mg_of X G a12) (F12.binds (ps := ["gates", "x"]) fun _ _ _ _ _ _ us hl => match us, hl with | [_, _], _ => rfl)
  have F13 := fun_mk (st := s_looked_at) l13 c13 k13
  have D_looked_at := M.Df.mk F13 (PySem.W.mg_of X G a13) (F13.binds (ps := ["n", "count", "rows"]) fun _ _ _ _ _ _ us hl => match us, hl with | [_, _, _], _ => rfl)
  have F14 := fun_mk (st := s_polynomial_value) l14 c14 k14
  have D_polynomial_value := M.Df.mk F14 (PySem.W.mg_of X G a14) (F14.binds (ps := ["values", "x"]) fun _ _ _ _ _ _ us hl => match us, hl with | [_, _], _ => rfl)
  have F15 := fun_mk (st := s_claims_hold) l15 c15 k15
  have D_claims_hold := M.Df.mk F15 (PySem.W.mg_of X G a15) (F15.binds (ps := ["total", "claims", "r", "value"]) fun _ _ _ _ _ _ us hl => match us, hl with | [_, _, _, _], _ => rfl)
  have F16 := fun_mk (st := s_circuit_arguments_hold) l16 c16 k16
  have D_circuit_arguments_hold := M.Df.mk F16 (PySem.W.mg_of X G a16) (F16.binds (ps := ["n", "gates"]) fun _ _ _ _ _ _ us hl => match us, hl with | [_, _], _ => rfl)
  have F17 := fun_mk (st := s_sc_check) l17 c17 k17
  have D_sc_check := M.Df.mk F17 (PySem.W.mg_of X G a17) (F17.binds (ps := ["n", "total", "code", "rows", "r"]) fun _ _ _ _ _ _ us hl => match us, hl with | [_, _, _, _, _], _ => rfl)
  refine ⟨PySem.W.fnOf "sc_check" "sc_check" (defArgs s_sc_check) (defBody s_sc_check) (defScope s_sc_check) .none kV17 dc17 pm17 an17 cd17 ct17, fun s us hu => match us, hu with | [_, _, _, _, _], _ => .of_eq rfl, fun base _ _ => ?_⟩
  have P_all_numbers := ok_all_numbers (P := P) (w := w) (base := base) D_all_numbers T 
  have P_gates_of := ok_gates_of (P := P) (w := w) (base := base) D_gates_of T 
  have P_number_of := ok_number_of (P := P) (w := w) (base := base) D_number_of T 
  have P_gate_degree := ok_gate_degree (P := P) (w := w) (base := base) D_gate_degree T 
  have P_count_all := ok_count_all (P := P) (w := w) (base := base) D_count_all T 
  have P_count_one := ok_count_one (P := P) (w := w) (base := base) D_count_one T 
  have P_looked_at := ok_looked_at (P := P) (w := w) (base := base) D_looked_at T 
  have P_polynomial_value := ok_polynomial_value (P := P) (w := w) (base := base) D_polynomial_value T 
  have P_circuit_arguments_hold := ok_circuit_arguments_hold (P := P) (w := w) (base := base) D_circuit_arguments_hold T 
  have P_is_gate := ok_is_gate (P := P) (w := w) (base := base) D_is_gate T P_number_of
  have P_gate_degrees := ok_gate_degrees (P := P) (w := w) (base := base) D_gate_degrees T P_gate_degree
  have P_gate_value := ok_gate_value (P := P) (w := w) (base := base) D_gate_value T P_number_of
  have P_claims_hold := ok_claims_hold (P := P) (w := w) (base := base) D_claims_hold T P_polynomial_value
  have P_degrees_hold := ok_degrees_hold (P := P) (w := w) (base := base) D_degrees_hold T P_gate_degrees P_count_one P_count_all
  have P_greatest_last_degree := ok_greatest_last_degree (P := P) (w := w) (base := base) D_greatest_last_degree T P_gate_degrees P_count_one
  have P_circuit_value := ok_circuit_value (P := P) (w := w) (base := base) D_circuit_value T P_gate_value
  have P_is_circuit := ok_is_circuit (P := P) (w := w) (base := base) D_is_circuit T P_degrees_hold P_is_gate
  have P_sc_check := ok_sc_check (P := P) (w := w) (base := base) D_sc_check T P_claims_hold P_circuit_value P_all_numbers P_looked_at P_greatest_last_degree P_is_circuit P_circuit_arguments_hold P_gates_of
  exact P_sc_check.ok
end W
open PySem PySem.W PyProof.Rows
set_option maxRecDepth 100000 in
set_option maxHeartbeats 0 in
theorem PySem.Challenge.cw_bychance_s07_sc_check_holds : PySem.Challenge.rw_bychance_s07_sc_check.Holds := by
  w_on; k_headS; (case hw => exact ⟨[.int 0, .int 0, .list [], .list [], .list []], by decide +kernel, by decide +kernel⟩)
  k_fillS
  refine L2.walk_specK (r := PySem.Challenge.rw_bychance_s07_sc_check) (k := 5) (CX := L2.CX0) (ps := ["n", "total", "code", "rows", "r"]) (sp := W.sp_sc_check) (by decide +kernel) rfl rfl ⟨rfl, by decide, by decide⟩ (fun w h Y => PySem.W.kIn_of Y) ?F ?S (fun _ _ _ _ z => z)
  case F =>
    intro w mg fa h Y KX G hmg
    refine' W.all_mk KX G hmg ?qa0 ?ql0 ?qc0 ?qk0 ?qa1 ?ql1 ?qc1 ?qk1 ?qa2 ?ql2 ?qc2 ?qk2 ?qa3 ?ql3 ?qc3 ?qk3 ?qa4 ?ql4 ?qc4 ?qk4 ?qa5 ?ql5 ?qc5 ?qk5 ?qa6 ?ql6 ?qc6 ?qk6 ?qa7 ?ql7 ?qc7 ?qk7 ?qa8 ?ql8 ?qc8 ?qk8 ?qa9 ?ql9 ?qc9 ?qk9 ?qa10 ?ql10 ?qc10 ?qk10 ?qa11 ?ql11 ?qc11 ?qk11 ?qa12 ?ql12 ?qc12 ?qk12 ?qa13 ?ql13 ?qc13 ?qk13 ?qa14 ?ql14 ?qc14 ?qk14 ?qa15 ?ql15 ?qc15 ?qk15 ?qa16 ?ql16 ?qc16 ?qk16 ?qa17 ?ql17 ?qc17 ?qk17 ?qg0 ?qg1 ?qg2 ?qg3 ?qg4 ?qg5 ?qg6 ?qg7 ?qg8 ?qg9 ?qg10 ?qg11 ?qg12 ?qg13 ?qb0 ?qb1 ?qb2
    (case qa0 => k_is)
    (case ql0 => k_is)
    (case qc0 => k_is)
    (case qk0 => k_is)
    (case qa1 => k_is)
    (case ql1 => k_is)
    (case qc1 => k_is)
    (case qk1 => k_is)
    (case qa2 => k_is)
    (case ql2 => k_is)
    (case qc2 => k_is)
    (case qk2 => k_is)
    (case qa3 => k_is)
    (case ql3 => k_is)
    (case qc3 => k_is)
    (case qk3 => k_is)
    (case qa4 => k_is)
    (case ql4 => k_is)
    (case qc4 => k_is)
    (case qk4 => k_is)
    (case qa5 => k_is)
    (case ql5 => k_is)
    (case qc5 => k_is)
    (case qk5 => k_is)
    (case qa6 => k_is)
    (case ql6 => k_is)
    (case qc6 => k_is)
    (case qk6 => k_is)
    (case qa7 => k_is)
    (case ql7 => k_is)
    (case qc7 => k_is)
    (case qk7 => k_is)
    (case qa8 => k_is)
    (case ql8 => k_is)
    (case qc8 => k_is)
    (case qk8 => k_is)
    (case qa9 => k_is)
    (case ql9 => k_is)
    (case qc9 => k_is)
    (case qk9 => k_is)
    (case qa10 => k_is)
    (case ql10 => k_is)
    (case qc10 => k_is)
    (case qk10 => k_is)
    (case qa11 => k_is)
    (case ql11 => k_is)
    (case qc11 => k_is)
    (case qk11 => k_is)
    (case qa12 => k_is)
    (case ql12 => k_is)
    (case qc12 => k_is)
    (case qk12 => k_is)
    (case qa13 => k_is)
    (case ql13 => k_is)
    (case qc13 => k_is)
    (case qk13 => k_is)
    (case qa14 => k_is)
    (case ql14 => k_is)
    (case qc14 => k_is)
    (case qk14 => k_is)
    (case qa15 => k_is)
    (case ql15 => k_is)
    (case qc15 => k_is)
    (case qk15 => k_is)
    (case qa16 => k_is)
    (case ql16 => k_is)
    (case qc16 => k_is)
    (case qk16 => k_is)
    (case qa17 => k_is)
    (case ql17 => k_is)
    (case qc17 => k_is)
    (case qk17 => k_is)
    (case qg0 => k_is)
    (case qg1 => k_is)
    (case qg2 => k_is)
    (case qg3 => k_is)
    (case qg4 => k_is)
    (case qg5 => k_is)
    (case qg6 => k_is)
    (case qg7 => k_is)
    (case qg8 => k_is)
    (case qg9 => k_is)
    (case qg10 => k_is)
    (case qg11 => k_is)
    (case qg12 => k_is)
    (case qg13 => k_is)
    (case qb0 => k_is)
    (case qb1 => k_is)
    (case qb2 => k_is)
  case S =>
    intro K H xs a hO hwi hask hx
    obtain ⟨n, t, code, rows, r, u⟩ := a
    have hx : L2.DwAll K H xs [.int n, .int t, .list (code.map WData.int), .list (rows.map WData.int), .list (r.map WData.int)] := hx
    obtain ⟨bc, ⟨g, hl, hg⟩, bw, br, hlen⟩ := W.check_asked (n := n) (t := t) (code := code) (rows := rows) (r := r) hask
    obtain ⟨a1, a2, a3, rfl, h1, h2, h3⟩ := M.args_ii3 hx
    refine ⟨n, t, a1, a2, a3, Sv41Neutral.nats code, Sv41Neutral.nats rows, Sv41Neutral.nats r, g, rfl, M.At.ints h1 fun x hx => (bc x hx).1, M.At.ints h2 fun x hx => (bw x hx).1, M.At.ints h3 fun x hx => (br x hx).1, by rw [W.nats_length]; exact hl, hg, fun p1 p2 => by rw [W.nats_length, W.nats_length]; exact hlen p1 p2, fun H' p hp => ?_⟩
    show L2.Dw K H' (.ref p) (.list ((PySv41.sc_check n t code rows r).map WData.int))
    have eg : ((code.length : Int) / 4) = (g : Int) := by
      rw [hl]
      omega
    have e : PySv41.sc_check n t code rows r = [(Sv41.does (.check (Sv41Neutral.nats code) (g : Int) n t (Sv41Neutral.nats rows) (Sv41Neutral.nats r))).v] := by
      rw [← eg]
      exact W.f_alone rfl (W.check_l _ _ _ _ _ _)
    rw [e]
    exact .lst (L2.SqL.of hp) (L2.dw_ints [_])
#print axioms PySem.Challenge.cw_bychance_s07_sc_check_holds
